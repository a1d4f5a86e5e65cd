import PyProof.Rows.All
import Wide.All
import OpenK.AllK
import Wide.FinOn
import HandS.ForExc
import HandS.Comp
import HandS.IsInst
import HandS.ExcInit
import HandS.ExcIs
import HandS.CallSlots
import HandS.Iter
import HandS.Zip
import HandS.Deep
import HandS.ListItems
import KE.DataFind
import PyProof.RulesMatchSeq
import PyProof.Rows.MatchSeqLen
import PyProof.DictTable
import HandS.Dict
import HandS.More
import HandS.RaiseOp
import HandS.WrittenGet
import HandS.TupAny
import HandS.TupLe
import PySem.Challenge.RW_frametally_k08_whole_invalidations
set_option Elab.async false
set_option linter.all false
set_option maxRecDepth 100000
set_option maxHeartbeats 4000000
/-! Data that stands in the heap (None, bools, ints, texts, lists, tuples): how it stays, what shape it has, its type. -/
namespace Dk
open PySem PySem.Spec PyProof.Rows L2

theorem Same.tupS {K : PySem.W.Frag} {H H' : Hp} {a : Addr} {xs : List V} (e : Same H H') (h : SqT K H a xs) : SqT K H' a xs := by
  rcases h with (h | ⟨o, h⟩) | h
  · exact .inl (.inl (e _ _ h))
  · exact .inl (.inr ⟨o, e _ _ h⟩)
  · exact .inr h
theorem Same.new {H : Hp} {p : Addr} {o : HO} (h : H p = none) : Same H (upd H p o) := fun b u e => (upd_ne (ne_of_none e h)).trans e
/-- an object that H does not track may be written -/
theorem Same.put {H H' : Hp} {p : Addr} {o : HO} (e : Same H H') (h : H p = none) : Same H (upd H' p o) := fun b u k => (upd_ne (ne_of_none k h)).trans (e b u k)

mutual
theorem dp_mono {K : PySem.W.Frag} {H H' : Hp} (e : Same H H') : ∀ {d : PyData} {v : V}, Dp K H v d → Dp K H' v d
  | .none, _, h => by cases h; exact .non
  | .bool b, _, h => by cases h; exact .bl b
  | .int i, _, h => by cases h; exact .int i
  | .str x, _, h => by cases h; exact .str x
  | .list ds, _, h => by
    cases h with
    | lst s q => exact .lst (e.seq s) (dpAll_mono e q)
  | .tuple ds, _, h => by
    cases h with
    | tup s q => exact .tup (Same.tupS e s) (dpAll_mono e q)
  | .dict _, _, h => by cases h
theorem dpAll_mono {K : PySem.W.Frag} {H H' : Hp} (e : Same H H') : ∀ {ds : List PyData} {vs : List V}, DpAll K H vs ds → DpAll K H' vs ds
  | [], _, h => by cases h; exact .nil
  | d :: ds, _, h => by
    cases h with
    | cons a b => exact .cons (dp_mono e a) (dpAll_mono e b)
end
section
variable {K : PySem.W.Frag} {H : Hp}
theorem dpAll_app : ∀ {xs ys : List V} {ds es : List PyData}, DpAll K H xs ds → DpAll K H ys es → DpAll K H (xs ++ ys) (ds ++ es)
  | _, _, _, _, .nil, q => q
  | _, _, _, _, .cons a b, q => .cons a (dpAll_app b q)
theorem dpAll_len : ∀ {xs : List V} {ds : List PyData}, DpAll K H xs ds → xs.length = ds.length
  | _, _, .nil => rfl
  | _, _, .cons _ b => congrArg (· + 1) (dpAll_len b)
theorem dpAll_drop : ∀ {xs : List V} {ds : List PyData} (n : Nat), DpAll K H xs ds → DpAll K H (xs.drop n) (ds.drop n)
  | _, _, 0, q => q
  | _, _, n + 1, .nil => .nil
  | _, _, n + 1, .cons _ b => dpAll_drop n b
theorem dpAll_get : ∀ {xs : List V} {ds : List PyData} {i : Nat} {v : V}, DpAll K H xs ds → xs[i]? = some v → ∃ d, ds[i]? = some d ∧ Dp K H v d
  | _, _, _, _, .nil, e => by simp at e
  | _, _, 0, _, .cons a _, e => by
    simp at e
    subst e
    exact ⟨_, rfl, a⟩
  | _, _, i + 1, _, .cons _ b, e => by
    obtain ⟨d, h1, h2⟩ := dpAll_get (i := i) b (by simpa using e)
    exact ⟨d, by simpa using h1, h2⟩
theorem dpAll_ints (ns : List Int) : DpAll K H (ns.map V.int) (ns.map PyData.int) := by
  induction ns with
  | nil => exact .nil
  | cons n ns ih => exact .cons (.int n) ih
end

theorem take_snoc {α : Type} : ∀ {l : List α} {i : Nat} {x : α}, l[i]? = some x → l.take (i + 1) = l.take i ++ [x]
  | [], _, _, h => by simp at h
  | y :: l, 0, _, h => by
    simp at h
    subst h
    rfl
  | y :: l, i + 1, _, h => by
    have ih := take_snoc (l := l) (i := i) (by simpa using h)
    rw [List.take_succ_cons, ih, List.take_succ_cons]
    rfl

theorem ifF {c : Bool} {A B : Prop} (h : c = false) (b : B) : if c = true then A else B := by
  rw [h]
  exact iteF b
theorem ifT {c : Bool} {A B : Prop} (h : c = true) (b : A) : if c = true then A else B := by
  rw [h]
  exact iteT b
theorem upd_comm {H : Hp} {a b : Addr} {o u : HO} (h : a ≠ b) : upd (upd H a o) b u = upd (upd H b u) a o := by
  funext c
  by_cases ca : c = a
  · rw [ca, upd_ne h, upd_same, upd_same]
  · by_cases cb : c = b
    · rw [cb, upd_same, upd_ne (Ne.symm h), upd_same]
    · rw [upd_ne cb, upd_ne ca, upd_ne ca, upd_ne cb]
theorem upd_self {H : Hp} {a : Addr} {o : HO} (h : H a = some o) : upd H a o = H := by
  funext c
  by_cases ca : c = a
  · rw [ca, upd_same, h]
  · rw [upd_ne ca]

theorem cut1 (xs : List V) : cutV xs (some 1) none = xs.drop 1 := by
  unfold cutV
  have e1 : HT.sIx xs.length 0 (some 1) = min 1 xs.length := HT.sIx_nat xs.length 0 1
  rw [e1, HT.sIx_none]
  cases xs with
  | nil => rfl
  | cons x xs =>
    rw [show min 1 (x :: xs).length = 1 by simp only [List.length_cons]; omega]
    exact List.take_of_length_le (by rw [List.length_drop]; omega)

/-- a new object beside a list under construction at D -/
theorem new_under {G : Hp} {D p : Addr} {u o : HO} (gD : G D = none) (h : upd G D u p = none) : upd (upd G D u) p o = upd (upd G p o) D u ∧ G p = none ∧ upd G p o D = none := by
  have ne : p ≠ D := fun e => by
    rw [e, upd_same] at h
    cases h
  exact ⟨upd_comm (Ne.symm ne), (upd_ne ne).symm.trans h, (upd_ne (Ne.symm ne)).trans gD⟩

/-! ### tuples stay, whatever is written elsewhere -/
def IsT : HO → Prop
  | .tup _ => True
  | .frz _ u => IsT u
  | _ => False
def KT (H H' : Hp) : Prop := ∀ b o, H b = some o → IsT o → H' b = some o
theorem KT.refl (H : Hp) : KT H H := fun _ _ h _ => h
theorem KT.trans {H H1 H2 : Hp} (a : KT H H1) (b : KT H1 H2) : KT H H2 := fun c o h k => b c o (a c o h k) k
theorem KT.of {H H' : Hp} (e : Same H H') : KT H H' := fun b o h _ => e b o h
theorem KT.put {H : Hp} {a : Addr} {u : HO} (h : ∀ o, H a = some o → ¬ IsT o) : KT H (upd H a u) := fun b o e k => by
  have ne : b ≠ a := fun z => h o (z ▸ e) k
  rw [upd_ne ne]
  exact e
theorem KT.lst {H : Hp} {a : Addr} {xs : List V} {u : HO} (h : H a = some (.lst xs)) : KT H (upd H a u) := KT.put fun o e k => by
  rw [h] at e
  cases e
  exact k
theorem KT.ins {H : Hp} {a C dx : Addr} {fs : List (Str × V)} {u : HO} (h : H a = some (.ins C dx fs)) : KT H (upd H a u) := KT.put fun o e k => by
  rw [h] at e
  cases e
  exact k
theorem KT.new {H : Hp} {a : Addr} {u : HO} (h : H a = none) : KT H (upd H a u) := KT.of (Same.new h)
theorem KT.tupS {K : PySem.W.Frag} {H H' : Hp} {a : Addr} {xs : List V} (e : KT H H') (h : SqT K H a xs) : SqT K H' a xs := by
  rcases h with (h | ⟨o, h⟩) | h
  · exact .inl (.inl (e _ _ h True.intro))
  · exact .inl (.inr ⟨o, e _ _ h True.intro⟩)
  · exact .inr h
mutual
/-- no list, no dict within -/
def noL : PyData → Bool
  | .none => true
  | .bool _ => true
  | .int _ => true
  | .str _ => true
  | .list _ => false
  | .dict _ => false
  | .tuple ds => noLs ds
def noLs : List PyData → Bool
  | [] => true
  | d :: ds => noL d && noLs ds
end
mutual
theorem dp_keep {K : PySem.W.Frag} {H H' : Hp} (e : KT H H') : ∀ {d : PyData} {v : V}, noL d = true → Dp K H v d → Dp K H' v d
  | .none, _, _, h => by cases h; exact .non
  | .bool b, _, _, h => by cases h; exact .bl b
  | .int i, _, _, h => by cases h; exact .int i
  | .str x, _, _, h => by cases h; exact .str x
  | .list ds, _, n, h => by simp [noL] at n
  | .tuple ds, _, n, h => by
    cases h with
    | tup s q => exact .tup (e.tupS s) (dpAll_keep e (by simpa [noL] using n) q)
  | .dict _, _, _, h => by cases h
theorem dpAll_keep {K : PySem.W.Frag} {H H' : Hp} (e : KT H H') : ∀ {ds : List PyData} {vs : List V}, noLs ds = true → DpAll K H vs ds → DpAll K H' vs ds
  | [], _, _, h => by cases h; exact .nil
  | d :: ds, _, n, h => by
    cases h with
    | cons a b =>
      have n2 : noL d = true ∧ noLs ds = true := by simpa [noLs] using n
      exact .cons (dp_keep e n2.1 a) (dpAll_keep e n2.2 b)
end
theorem noLs_of : ∀ {ds : List PyData}, (∀ d ∈ ds, noL d = true) → noLs ds = true
  | [], _ => by simp only [noLs]
  | d :: ds, h => by
    simp only [noLs, h d (List.mem_cons_self ..), noLs_of fun x hx => h x (List.mem_cons_of_mem _ hx), Bool.and_self]
theorem noL_tup {ds : List PyData} (h : ∀ d ∈ ds, noL d = true) : noL (.tuple ds) = true := by
  simp only [noL]
  exact noLs_of h

/-! ### shapes -/
structure Sh (n : Nat) (d : PyData) : Prop where
  lay : d.canLay0 = true
  deep : d.depth ≤ n
theorem Sh.up {n m : Nat} {d : PyData} (h : Sh n d) (k : n ≤ m) : Sh m d := ⟨h.lay, Nat.le_trans h.deep k⟩
theorem sh_none : Sh 0 .none := ⟨by simp only [PyData.canLay0], by simp only [PyData.depth]; omega⟩
theorem sh_int (i : Int) : Sh 0 (.int i) := ⟨by simp only [PyData.canLay0], by simp only [PyData.depth]; omega⟩
theorem sh_bool (b : Bool) : Sh 0 (.bool b) := ⟨by simp only [PyData.canLay0], by simp only [PyData.depth]; omega⟩
theorem sh_all {n : Nat} : ∀ {ds : List PyData}, (∀ d ∈ ds, Sh n d) → PyData.canLayAll0 ds = true ∧ PyData.depthAll ds ≤ n
  | [], _ => ⟨by simp only [PyData.canLayAll0], by simp only [PyData.depthAll]; omega⟩
  | d :: ds, h => by
    have h1 := h d (List.mem_cons_self ..)
    obtain ⟨h2, h3⟩ := sh_all (n := n) (ds := ds) fun x hx => h x (List.mem_cons_of_mem _ hx)
    exact ⟨by simp only [PyData.canLayAll0, h1.lay, h2, Bool.and_self], by simp only [PyData.depthAll]; exact Nat.max_le.mpr ⟨h1.deep, h3⟩⟩
theorem sh_tup {n : Nat} {ds : List PyData} (h : ∀ d ∈ ds, Sh n d) : Sh (n + 1) (.tuple ds) := by
  obtain ⟨h1, h2⟩ := sh_all h
  exact ⟨by simp only [PyData.canLay0]; exact h1, by simp only [PyData.depth]; omega⟩
theorem sh_lst {n : Nat} {ds : List PyData} (h : ∀ d ∈ ds, Sh n d) : Sh (n + 1) (.list ds) := by
  obtain ⟨h1, h2⟩ := sh_all h
  exact ⟨by simp only [PyData.canLay0]; exact h1, by simp only [PyData.depth]; omega⟩
theorem Sh.ok {n : Nat} {d : PyData} (h : Sh n d) (k : n ≤ 64 := by decide) : SeqAt.shaped d = true := by
  unfold SeqAt.shaped
  rw [h.lay, decide_eq_true (Nat.le_trans h.deep k)]
  rfl
theorem Sh.refl {n : Nat} {d : PyData} (h : Sh n d) : PyData.eqv d d = true := SeqAt.eqv_refl d h.lay

/-! ### types -/
def tyN : PyData → String
  | .none => "NoneType"
  | .bool _ => "bool"
  | .int _ => "int"
  | .str _ => "str"
  | .list _ => "list"
  | .tuple _ => "tuple"
  | .dict _ => "dict"
theorem tyx {K : PySem.W.Frag} {H : Hp} {v : V} {d : PyData} (h : Dp K H v d) : TyX K H v (.type (tyN d)) := by
  cases h with
  | non => exact .base .non
  | bl b => exact .base (.bl b)
  | int i => exact .base (.int i)
  | str x => exact .base (.str x)
  | lst s _ =>
    rcases s with (s | ⟨o, s⟩) | s
    · exact .base (.lst s)
    · exact .base (.frz s)
    · obtain ⟨o, _, _, h1, h2, _⟩ := s
      exact .kList h1 h2
  | tup s _ =>
    rcases s with (s | ⟨o, s⟩) | s
    · exact .base (.tup s)
    · exact .fTuple s
    · obtain ⟨o, _, _, h1, h2, _⟩ := s
      exact .kTuple h1 h2

/-! ### isinstance over data -/
def isInt : PyData → Bool
  | .int _ => true
  | .bool _ => true
  | _ => false
def isBool : PyData → Bool
  | .bool _ => true
  | _ => false
def isTup : PyData → Bool
  | .tuple _ => true
  | _ => false
def isLst : PyData → Bool
  | .list _ => true
  | _ => false
def kits (c : String) : List (Option Bool) := ["NoneType", "bool", "int", "str", "list", "tuple", "dict"].map fun t => kitB t c
theorem kits_at {c : String} {b0 b1 b2 b3 b4 b5 b6 : Bool} (h : kits c = [some b0, some b1, some b2, some b3, some b4, some b5, some b6]) (d : PyData) :
    kitB (tyN d) c = some (match d with | .none => b0 | .bool _ => b1 | .int _ => b2 | .str _ => b3 | .list _ => b4 | .tuple _ => b5 | .dict _ => b6) := by
  simp only [kits, List.map_cons, List.map_nil, List.cons.injEq, and_true] at h
  obtain ⟨h0, h1, h2, h3, h4, h5, h6⟩ := h
  cases d
  · exact h0
  · exact h1
  · exact h2
  · exact h3
  · exact h4
  · exact h5
  · exact h6
section
variable {K : PySem.W.Frag}
theorem kit_int (d : PyData) : PySem.W.kitOne K (.type (tyN d)) (.type "int") = some (isInt d) := by
  refine (kit_ty (kits_at (by decide +kernel : kits "int" = [some false, some true, some true, some false, some false, some false, some false]) d)).trans ?_
  cases d <;> rfl
theorem kit_bool (d : PyData) : PySem.W.kitOne K (.type (tyN d)) (.type "bool") = some (isBool d) := by
  refine (kit_ty (kits_at (by decide +kernel : kits "bool" = [some false, some true, some false, some false, some false, some false, some false]) d)).trans ?_
  cases d <;> rfl
theorem kit_tup (d : PyData) : PySem.W.kitOne K (.type (tyN d)) (.type "tuple") = some (isTup d) := by
  refine (kit_ty (kits_at (by decide +kernel : kits "tuple" = [some false, some false, some false, some false, some false, some true, some false]) d)).trans ?_
  cases d <;> rfl
theorem kit_lst (d : PyData) : PySem.W.kitOne K (.type (tyN d)) (.type "list") = some (isLst d) := by
  refine (kit_ty (kits_at (by decide +kernel : kits "list" = [some false, some false, some false, some false, some true, some false, some false]) d)).trans ?_
  cases d <;> rfl
end
end Dk
/-! An own error class over ValueError that is made without an argument and keeps no field: C(), its __init__ walked as a def. -/
namespace Ek
open PySem PySem.Spec PyProof.Rows L2
section
variable {X : Cx} {a C : Addr} {p pos : Pos}

/-- behind C(): the error at a is let go, nothing else of the heap has changed its tracking -/
theorem let_go {pins : List (Addr × Obj)} {σ : L2.St} {H1 H2 : Hp} {u v w2 : Heap} {gA gB : Array GenState} {dA dB : Drawn} {tA tB : Nat} {oA oB : OsState}
    (I1 : Inv X pins σ H1 ⟨u, gA, dA, tA, oA⟩) (ha : u.objs.size ≤ a) (kp : ∀ b o, u.get? b = some o → v.get? b = some o)
    (un : Un (frs X.stack) [] (upd H1 a (exo a C none)) H2 v w2) (ok2 : HOk X.prog X.w H2 w2) (eo : oB = oA) (bare : AllBare gB) (ea : H2 a = some (exo a C none)) :
    ∃ (t0 : Addr) (G : Heap), Inv X pins σ (del H2 a) ⟨G, gB, dB, tB, oB⟩ ∧ (∀ b o, G.get? b = some o → w2.get? b = some o) ∧ G.get? a = none ∧
      w2.get? a = some ({ cls := .ref C, dict := none, data := .fields #[.ref t0, .none, .none, .none, .bool false, .none] } : Obj) := by
  obtain ⟨t0, he⟩ := exo_at ok2 ea
  have hn : H1 a = none := I1.hok.fresh ha
  obtain ⟨G, gIn, gOut⟩ := restrict w2 (fun b => decide (b ≠ a))
  have same : ∀ b, b ≠ a → G.get? b = w2.get? b := fun b hb => gIn b (decide_eq_true hb)
  have gone : G.get? a = none := gOut a (by simp)
  have old : ∀ {b : Addr} {o : Obj}, u.get? b = some o → b ≠ a := fun {b o} z => Nat.ne_of_lt (Nat.lt_of_lt_of_le (Heap.lt_size z) ha)
  have up : ∀ {b : Addr}, b ≠ a → H1 b = none → upd H1 a (exo a C none) b = none := fun {b} hb n => (upd_ne hb).trans n
  have U : Un (frs X.stack) [] H1 (del H2 a) u G :=
    { keep := fun b o z n hf hx => (same b (old z)).trans (un.keep b o (kp b o z) (up (old z) n) hf hx)
      slot := fun b o z n hf hx => by
        obtain ⟨sl, e⟩ := un.slot b o (kp b o z) (up (old z) n) hf hx
        exact ⟨sl, (same b (old z)).trans e⟩
      free := fun b o z n hx => (del_ne (old z)).trans (un.free b o (kp b o z) (up (old z) n) hx)
      there := fun b o z hx => by
        obtain ⟨o2, e⟩ := un.there b o (kp b o z) hx
        exact ⟨o2, (same b (old z)).trans e⟩
      tups := fun b xs z => (del_ne (ne_of_none z hn)).trans (un.tups b xs ((upd_ne (ne_of_none z hn)).trans z))
      frzs := fun b o y z => (del_ne (ne_of_none z hn)).trans (un.frzs b o y ((upd_ne (ne_of_none z hn)).trans z))
      tbls := fun b ps z => by
        obtain ⟨more, e⟩ := un.tbls b ps ((upd_ne (ne_of_none z hn)).trans z)
        exact ⟨more, (del_ne (ne_of_none z hn)).trans e⟩ }
  have noa : ∀ {b c : Addr}, H2 c = some (.own b) → c ≠ a := fun {b c} hc => at_ne ea hc exo_own
  have ok3 : HOk X.prog X.w (del H2 a) G := fun b o z => by
    have hba : b ≠ a := fun e => by
      rw [e, del_same] at z
      cases z
    rw [del_ne hba] at z
    refine (ok2 b o z).stay (fun c y hc q => ?_) (fun c hc => (del_ne (noa hc)).trans hc) (fun c xs hc => (del_ne (at_ne ea hc exo_tup)).trans hc)
    have hca : c ≠ a := by
      rcases hc with hc | hc
      · exact hc ▸ hba
      · exact noa hc
    exact (same c hca).trans q
  refine ⟨t0, G, I1.call' (ch := []) eo U ok3 bare (fun b z => absurd z (by simp)), fun b o z => ?_, gone, he⟩
  by_cases hba : b = a
  · rw [hba, gone] at z
    cases z
  · exact (same b hba).symm.trans z

/-- C(), where __init__ sets nothing -/
def tMk0 (C : Addr) (sp : Sp) : L2.St → Hp → XK → Prop := fun _ H Q => ∀ a, H a = none →
  sp [.ref a] (upd H a (exo a C none)) (fun v H2 => v = .non ∧ H2 a = some (exo a C none) ∧ Q (.ref C) none (del H2 a)) (fun _ _ _ => False)
theorem mk_exc0 {CX : CXT} {x : Str} {C fI : Addr} {k : Nat} {fd : FuncData} {ps : List Str} {sp : Sp} (T : OexC X.K C)
    (iC : PySem.W.findIn X.K (.ref C) "__init__" = some (some (.ref fI))) (tI : PySem.W.typeIn X.K (.ref fI) = some (.type "function"))
    (F1 : FnOk X.prog X.w X.K X.mg X.base CX k fI fd ps sp) (hr : Room (k + 1) X.A) (hb : Binds X.K fd ps []) (hx : Passes CX X (fun _ _ _ => False))
    (hg : Gl X x) (hm : X.mg x = some (.ref C)) (hdb : (x == ("__debug__" : Str)) = false := by decide) :
    PMk X (.Call (.Name x p) [] [] pos) (tMk0 C sp) := by
  intro pins s σ H Q I h
  obtain ⟨nm, q, N, bs, bm, sn, sub, ab, col, dd, k0, k1, k2, k3, k5, hC, hbm⟩ := T.cls
  refine wpAny_Call_Name_kw (ld_glob I hg hm ?_ hdb)
  refine PySem.W.callWith_K0 I.kIn T.kC ?_
  show wpAny _ _ (call (.ref C) []) _ _ _
  obtain ⟨hp, g, dr, tk, os⟩ := s
  have hsz : hp.objs.size ≤ hp.objs.size + 1 := Nat.le_succ _
  have hn : H (hp.objs.size + 1) = none := I.hok.fresh hsz
  have want := h (hp.objs.size + 1) hn
  have keep2 : ∀ b o, hp.get? b = some o → ((hp.push (PySem.W.kdv_tup [])).push (PySem.HandSPX.excO C hp.objs.size)).get? b = some o :=
    fun b o e => Heap.get?_push_of_some _ (Heap.get?_push_of_some _ e)
  have atE : ((hp.push (PySem.W.kdv_tup [])).push (PySem.HandSPX.excO C hp.objs.size)).get? (hp.objs.size + 1) = some (PySem.HandSPX.excO C hp.objs.size) := by heap_get
  have I2 : Inv X pins σ (upd H (hp.objs.size + 1) (exo (hp.objs.size + 1) C none)) ⟨(hp.push (PySem.W.kdv_tup [])).push (PySem.HandSPX.excO C hp.objs.size), g, dr, tk, os⟩ :=
    I.laid (t' := tk) (a := hp.objs.size + 1) (o := exo (hp.objs.size + 1) C none) (h' := (hp.push (PySem.W.kdv_tup [])).push (PySem.HandSPX.excO C hp.objs.size)) keep2 hsz (exo_ok atE)
  have r2 : Vals [V.ref (hp.objs.size + 1)] [Value.ref (hp.objs.size + 1)] := .cons rfl .nil
  have len1 : ([Value.ref (hp.objs.size + 1)] : List Value).length = ps.length := by
    have e := r2.length
    rw [F1.len _ _ _ _ want] at e
    exact e.symm
  refine wpAny_call (PySem.HandSPX.call_own (rest := []) F.excBase_ValueError (fun Y => PySem.HandSPX.refsVE_contains Y bm hbm) (I.kIn _ _ hC) (PySem.W.looks_findIn I.kIn iC)
    (fun self => PySem.W.bind_fn I.kIn self tI) (Nat.zero_le _) (codeAny_mono (F1.run _ X.stack _ _ ⟨[Value.ref (hp.objs.size + 1)], []⟩ [Value.ref (hp.objs.size + 1)] _ _ (fun _ _ _ => False)
      (hr.make C [] []) (I2.env0.make C [] []) (hb _ [Value.ref (hp.objs.size + 1)] I2.kIn len1) r2 want) fun r s2 back => ?_))
  cases r with
  | error er => exact hx pins σ _ _ er s2 I2 back
  | ok fl =>
    cases fl with
    | ret y =>
      obtain ⟨v, H2, os2, bare2, un2, hok2, rv, ev, ea, wish⟩ := back
      subst ev
      obtain ⟨h2, g2, d2, t2, o2⟩ := s2
      obtain ⟨t0, G, J, kG, gone, there⟩ := let_go (dB := d2) (tB := t2) I hsz keep2 un2 hok2 os2 bare2 ea
      exact ⟨rv, ⟨_, _, _, ⟨G, g2, d2, t2, o2⟩, _, .ref C, none, rfl, J, kG, gone, there, ⟨rfl, rfl⟩, rfl, rfl, del_same, rfl, bare2, raises_own T.exC T.tyC, wish⟩⟩
    | next => exact back.elim
    | brk => exact back.elim
    | cont => exact back.elim
end

section
variable {X : Cx} {CX : CXT} {k : Nat} {f C : Addr} {fd : FuncData} {ps : List Str} {sp : Sp} {E : L2.St → XK} {m : Str} {apos pos : Pos} {e o : Expr} {es : List Expr} {ta : TE} {t : TA}
/-- o.m(e, ..), where what is raised is wished for at the caller's slots -/
def tMethW (C : Addr) (m : Str) (sp : Sp) (E : L2.St → XK) (ta : TE) (t : TA) : TE := fun σ H Q => ta σ H fun x H1 =>
  ∃ a dx fs, x = .ref a ∧ H1 a = some (.ins C dx fs) ∧ fs.lookup m = none ∧ t σ H1 fun vs H2 => sp (x :: vs) H2 Q (E σ)
theorem pe_methW {pl : Sem Bool} (he : PE X o ta) (c : Cls X.K C) (hm : Meth X.K C m f) (F : FnOk X.prog X.w X.K X.mg X.base CX k f fd ps sp) (hr : Room k X.A) (hb : Binds X.K fd ps [])
    (hx : ∀ σ, PassesAt CX X σ (E σ)) (ha : PA X (e :: es) t)
    (hst : starEach (e :: es) X.env = (false, eval e X.env) :: starEach es X.env := by rfl) (hpl : (backTo pos (starEach es X.env)).any (·.1) = false := by rfl)
    (ht : eval (.Call (.Attribute o m apos) (e :: es) [] pos) X.env = (do
      let ov ← eval o X.env
      standAt apos.atName
      let fr ← holding [ov] (getMethod ov m pl)
      callWith pos fr.1 fr.2 (backTo pos (starEach (e :: es) X.env)) (backToKw pos (keywordEach [] X.env))) := by rfl) :
    PE X (.Call (.Attribute o m apos) (e :: es) [] pos) (tMethW C m sp E ta t) := by
  refine ⟨fun pins s σ H Q I h => ?_⟩
  refine PySem.W.methodCall_KW (pl := pl) (thn (he.run pins s σ H _ I h) fun u s1 ⟨x, H1, I1, rx, a, dx, fs, ex, ea, l, q⟩ => ?_) ht
  subst ex
  obtain rfl : u = Value.ref a := rx
  refine getmeth_ok I1 ea c hm l ?_
  refine PySem.W.callWith_K (first := [.ref a]) (h₀ := X.base) I.ok.mod.kin hm.kp (thn (ha.run pos pins s1 σ H1 _ I1 q) fun us s2 ⟨vs, H2, I2, r, q2⟩ => ⟨I2.kIn, ?_⟩) hst hpl
  exact run_fnS (us := .ref a :: us) (vs := .ref a :: vs) F hr hb (hx σ) I2 (.cons rfl r) q2
end

theorem hu65 {k : Nat} {A : Around} (hr : Room k A) : A.units + 65 < cLine := by
  have := hr.un
  omega
/-- a module's constant -/
theorem pe_con {X : Cx} {x : Str} {pos : Pos} {v : V} (hg : Gl X x) (h : ∃ u, X.mg x = some u ∧ RelV v u) (hdb : (x == ("__debug__" : Str)) = false := by decide) : PE X (.Name x pos) (tC v) := by
  obtain ⟨u, h1, h2⟩ := h
  exact pe_glob hg h1 h2 hdb
/-- a statement and what follows it, joined by a word of one's own: what follows is read once, whatever way led there -/
def tMid (t u : TS) : TS := fun D σ H => ∃ M : L2.St → Hp → Prop, t { D with nx := M } σ H ∧ ∀ σ2 H2, M σ2 H2 → u D σ2 H2
theorem pss_mid {X : Cx} {st : Stmt} {more : List Stmt} {t u : TS} (hs : PS X st t) (hm : PSs X more u) : PSs X (st :: more) (tMid t u) := ⟨fun pins s σ H D I ⟨M, hM, hu⟩ =>
  wpAny_execs_cons (thn (hs.run pins s σ H { D with nx := M } I hM) fun f s2 back => by
    cases f with
    | next =>
      obtain ⟨σ2, H2, I2, y⟩ := back
      exact hm.run pins s2 σ2 H2 D I2 (hu σ2 H2 y)
    | ret v => exact back
    | brk => exact back
    | cont => exact back)⟩
/-- a block that is walked under a condition which its reading brings -/
theorem pss_under {X : Cx} {sts : List Stmt} {P : Prop} {t : TS} (h : P → PSs X sts t) : PSs X sts (fun D σ H => P ∧ t D σ H) :=
  ⟨fun pins s σ H D I q => (h q.1).run pins s σ H D I q.2⟩
section
variable {X : Cx} {CX : CXT} {k : Nat} {f C : Addr} {fd : FuncData} {ps : List Str} {sp : Sp} {E : L2.St → XK} {x : Str} {p pos : Pos} {e : Expr} {es : List Expr} {t : TA}
/-- C(e, ..), where what is raised is wished for at the caller's slots -/
def tMakeW (C : Addr) (sp : Sp) (E : L2.St → XK) (t : TA) : TE := fun σ H Q => t σ H fun vs H1 => ∀ x dx, H1 x = none → H1 dx = none → dx ≠ x → sp (.ref x :: vs) (upd (upd H1 dx (.own x)) x (.ins C dx [])) (fun v H2 => v = .non ∧ Q (.ref x) H2) (E σ)
theorem run_makeW {pins : List (Addr × Obj)} {σ : L2.St} {H : Hp} {s : Shared} {Q : VK} {us : List Value} {vs : List V} (M : Mk X.K C f) (F : FnOk X.prog X.w X.K X.mg X.base CX k f fd ps sp) (hr : Room (k + 1) X.A) (hb : Binds X.K fd ps [])
    (hx : PassesAt CX X σ (E σ)) (I : Inv X pins σ H s) (r : Vals vs us)
    (h : ∀ x dx, H x = none → H dx = none → dx ≠ x → sp (.ref x :: vs) (upd (upd H dx (.own x)) x (.ins C dx [])) (fun v H2 => v = .non ∧ Q (.ref x) H2) (E σ)) :
    wpAny (model X.prog X.w) X.A (call (.ref C) us) (EP X pins σ Q) X.xe s := by
  have hq := h (s.heap.objs.size + 1) s.heap.objs.size (I.hok.fresh (Nat.le_succ _)) (I.hok.fresh (Nat.le_refl _)) (Nat.ne_of_lt (Nat.lt_succ_self _))
  have I2 := Inv.made (C := C) I
  have r2 : Vals (V.ref (s.heap.objs.size + 1) :: vs) (Value.ref (s.heap.objs.size + 1) :: us) := .cons rfl r
  have hl : (Value.ref (s.heap.objs.size + 1) :: us).length = ps.length := by
    have e := r2.length
    rw [F.len _ _ _ _ hq] at e
    exact e.symm
  have b := hb ((⟨_, s.gens, s.drawn, s.toks, s.os⟩ : Shared)) (Value.ref (s.heap.objs.size + 1) :: us) I2.kIn (by rw [List.append_nil]; exact hl)
  rw [List.append_nil] at b
  refine wpAny_call (make_map (f := f) I.kIn M.makes M.init (beq_iff_eq.mp M.fn) (codeAny_mono (F.run _ X.stack _ _ ⟨Value.ref (s.heap.objs.size + 1) :: us, []⟩ (Value.ref (s.heap.objs.size + 1) :: us) _ _ (E σ) (hr.make C us [])
    (I2.env0.make C us []) b r2 hq) fun r s' hq' => ?_))
  cases r with
  | error e => exact hx pins _ _ e s' I2 hq'
  | ok fl =>
    cases fl with
    | ret u =>
      obtain ⟨v, H', I3, rv, ev, q3⟩ := I2.after hq'
      subst ev
      exact ⟨rv, ⟨V.ref (s.heap.objs.size + 1), H', I3, rfl, q3⟩⟩
    | next => exact False.elim hq'
    | brk => exact False.elim hq'
    | cont => exact False.elim hq'
theorem pe_makeW (M : Mk X.K C f) (F : FnOk X.prog X.w X.K X.mg X.base CX k f fd ps sp) (hr : Room (k + 1) X.A) (hg : Gl X x) (hm : X.mg x = some (.ref C)) (hb : Binds X.K fd ps []) (hx : ∀ σ, PassesAt CX X σ (E σ))
    (ha : PA X (e :: es) t) (hdb : (x == ("__debug__" : Str)) = false := by decide) (he : starEach (e :: es) X.env = (false, eval e X.env) :: starEach es X.env := by rfl) (hpl : (backTo pos (starEach es X.env)).any (·.1) = false := by rfl) :
    PE X (.Call (.Name x p) (e :: es) [] pos) (tMakeW C sp E t) := by
  refine ⟨fun pins s σ H Q I h => ?_⟩
  refine wpAny_Call_Name_kw (ld_glob I hg hm ?_ hdb)
  refine PySem.W.callWith_K (h₀ := X.base) I.ok.mod.kin M.kp (thn (ha.run pos pins s σ H _ I h) fun us s1 ⟨vs, H1, I1, r, q⟩ => ⟨I1.kIn, ?_⟩) he hpl
  exact run_makeW M F hr hb (hx σ) I1 r q
end
end Ek
/-! Buffers' entries: tuples (space, page, frame, writable) in the heap; pairs; x not in a list or tuple of data; table words. -/
namespace Nk
open PySem PySem.Spec PyProof.Rows L2 Dk

/-- all but the object at b is as it was -/
def SameBut (b : Addr) (H H' : Hp) : Prop := ∀ x o, x ≠ b → H x = some o → H' x = some o
theorem Same.but {b : Addr} {H H' : Hp} (e : Same H H') : SameBut b H H' := fun x o _ h => e x o h
theorem SameBut.trans {b : Addr} {H H1 H2 : Hp} (e : SameBut b H H1) (f : SameBut b H1 H2) : SameBut b H H2 := fun x o n h => f x o n (e x o n h)
theorem SameBut.put {b p : Addr} {H H' : Hp} {o : HO} (e : SameBut b H H') (h : H p = none) : SameBut b H (upd H' p o) := fun x u n k => (upd_ne (ne_of_none k h)).trans (e x u n k)
theorem SameBut.own {b : Addr} {H H' : Hp} {o : HO} (e : SameBut b H H') : SameBut b H (upd H' b o) := fun x u n k => (upd_ne n).trans (e x u n k)
/-- tuples stay where the object at b is none -/
theorem SameBut.kt {b C dx : Addr} {fs : List (Str × V)} {H H' : Hp} (e : SameBut b H H') (h : H b = some (.ins C dx fs)) : KT H H' := fun x o k t => e x o (fun z => by
  rw [z, h] at k
  cases k
  exact t) k

structure En where
  (s p f : Int)
  w : Bool
def eV (e : En) : List V := [.int e.s, .int e.p, .int e.f, .bl e.w]
def eD (e : En) : PyData := .tuple [.int e.s, .int e.p, .int e.f, .bool e.w]
def aV (z : Addr × En) : V := .ref z.1
def EnAll (H : Hp) (zs : List (Addr × En)) : Prop := ∀ z ∈ zs, H z.1 = some (.tup (eV z.2))
theorem EnAll.kt {H H' : Hp} {zs : List (Addr × En)} (h : EnAll H zs) (e : KT H H') : EnAll H' zs := fun z hz => e _ _ (h z hz) True.intro
theorem EnAll.nil (H : Hp) : EnAll H [] := fun _ h => absurd h List.not_mem_nil
theorem EnAll.app {H : Hp} {zs ys : List (Addr × En)} (h : EnAll H zs) (k : EnAll H ys) : EnAll H (zs ++ ys) := fun z hz => (List.mem_append.mp hz).elim (h z) (k z)
theorem EnAll.one {H : Hp} {t : Addr} {e : En} (h : H t = some (.tup (eV e))) : EnAll H [(t, e)] := fun z hz => by
  rw [List.mem_singleton.mp hz]
  exact h
theorem EnAll.filter {H : Hp} {zs : List (Addr × En)} (h : EnAll H zs) (c : Addr × En → Bool) : EnAll H (zs.filter c) := fun z hz => h z (List.mem_filter.mp hz).1
theorem EnAll.drop {H : Hp} {zs : List (Addr × En)} (h : EnAll H zs) (n : Nat) : EnAll H (zs.drop n) := fun z hz => h z (List.mem_of_mem_drop hz)
theorem EnAll.dp {K : PySem.W.Frag} {H : Hp} : ∀ {zs : List (Addr × En)}, EnAll H zs → DpAll K H (zs.map aV) ((zs.map Prod.snd).map eD)
  | [], _ => .nil
  | z :: zs, h => .cons (.tup (SqT.of (h z (List.mem_cons_self ..))) (.cons (.int _) (.cons (.int _) (.cons (.int _) (.cons (.bl _) .nil))))) (EnAll.dp fun y hy => h y (List.mem_cons_of_mem _ hy))
theorem shE (e : En) : Sh 1 (eD e) := sh_tup fun d hd => by
  simp only [List.mem_cons, List.not_mem_nil, or_false] at hd
  rcases hd with rfl | rfl | rfl | rfl
  · exact sh_int _
  · exact sh_int _
  · exact sh_int _
  · exact sh_bool _
theorem shEs (es : List En) : Sh 2 (.list (es.map eD)) := sh_lst fun d hd => by
  obtain ⟨e, _, rfl⟩ := List.mem_map.mp hd
  exact shE e
theorem map_get {α β : Type} {f : α → β} {l : List α} {i : Nat} {y : β} (h : (l.map f)[i]? = some y) : ∃ x, l[i]? = some x ∧ y = f x := by
  rw [List.getElem?_map] at h
  cases e : l[i]? with
  | none =>
    rw [e] at h
    cases h
  | some x =>
    rw [e] at h
    exact ⟨x, rfl, (Option.some.inj h).symm⟩
theorem mem_of_get {α : Type} {l : List α} {i : Nat} {x : α} (h : l[i]? = some x) : x ∈ l := by
  obtain ⟨hi, e⟩ := List.getElem?_eq_some_iff.mp h
  exact e ▸ List.getElem_mem hi

/-! ### pairs -/
def pD (q : Int × Int) : PyData := .tuple [.int q.1, .int q.2]
theorem eqv_pD (q r : Int × Int) : PyData.eqv (pD q) (pD r) = decide (q = r) := by
  obtain ⟨a, b⟩ := q
  obtain ⟨c, d⟩ := r
  simp only [pD, PyData.eqv, PyData.eqvAll, Bool.and_true, Prod.mk.injEq]
  by_cases h1 : a = c
  · by_cases h2 : b = d
    · simp [h1, h2]
    · simp [h1, h2]
  · simp [h1]
theorem shP (q : Int × Int) : Sh 1 (pD q) := sh_tup fun d hd => by
  simp only [List.mem_cons, List.not_mem_nil, or_false] at hd
  rcases hd with rfl | rfl
  · exact sh_int _
  · exact sh_int _
theorem shPs (ps : List (Int × Int)) : Sh 2 (.list (ps.map pD)) := sh_lst fun d hd => by
  obtain ⟨e, _, rfl⟩ := List.mem_map.mp hd
  exact shP e
def keep (ps : List (Int × Int)) (e : En) : Bool := !ps.any fun q => decide (q = (e.s, e.p))
theorem any_pD (ps : List (Int × Int)) (e : En) : (!(ps.map pD).any fun d => PyData.eqv d (pD (e.s, e.p))) = keep ps e := by
  unfold keep
  rw [List.any_map]
  congr 2
  funext q
  exact eqv_pD q (e.s, e.p)

theorem filter_snd (c : En → Bool) : ∀ zs : List (Addr × En), (zs.filter fun z => c z.2).map Prod.snd = (zs.map Prod.snd).filter c
  | [] => rfl
  | z :: zs => by
    have ih := filter_snd c zs
    rw [List.filter_cons, List.map_cons, List.filter_cons]
    by_cases h : c z.2 = true
    · rw [if_pos h, if_pos h, List.map_cons, ih]
    · rw [if_neg h, if_neg h, ih]

/-! ### x not in y, y a list or a tuple of data -/
def rNiD (K : PySem.W.Frag) : R2 := fun x y H Q => ∃ d ds, Dp K H x d ∧ (Dp K H y (.list ds) ∨ Dp K H y (.tuple ds)) ∧ SeqAt.shaped d = true ∧ SeqAt.shaped (.list ds) = true ∧ Q (.bl (!ds.any fun z => PyData.eqv z d)) H
theorem op_niD {X : Cx} (hu : X.A.units + 65 < cLine) : OpR X (compareOp .NotIn) (rNiD X.K) := by
  intro pins s σ H x y v u Q I rx ry h
  obtain ⟨d, ds, hd, he, sd, se, q⟩ := h
  obtain ⟨as, r1⟩ := Dp.reads I d x v hd rx
  have c1 := SeqAt.canLay_of_shaped se
  have c2 := SeqAt.canLay_of_shaped sd
  have d2 := SeqAt.depth_of_shaped sd
  have room : X.A.units + 1 + min (PyData.depthAll ds) d.depth < cLine := by
    have := Nat.min_le_right (PyData.depthAll ds) d.depth
    omega
  rcases he with he | he
  · obtain ⟨bs, r2⟩ := Dp.reads I (.list ds) y u he ry
    exact SeqAt.notIn_list_reads r2 r1 (by simpa only [PyData.canLay0] using c1) c2 room ⟨.bl _, H, I, rfl, q⟩
  · obtain ⟨bs, r2⟩ := Dp.reads I (.tuple ds) y u he ry
    exact SeqAt.notIn_tuple_reads r2 r1 (by simpa only [PyData.canLay0] using c1) c2 room ⟨.bl _, H, I, rfl, q⟩

/-! ### table words of the law, the buffer's mirror -/
inductive Wd where
  | frame (f : Int) (w : Bool)
  | non
  | swap (n : Int)
  | file
  | held
def Wd.leads : Wd → Bool
  | .frame _ _ => true
  | _ => false
def wD : Wd → PyData
  | .frame f w => .tuple [.str "frame", .int f, .bool w]
  | .non => .none
  | .swap n => .tuple [.str "swap", .int n]
  | .file => .tuple [.str "file", .int 1, .int 2]
  | .held => .tuple [.str "held"]
def last2 (es : List En) : List En := if 2 < es.length then es.drop 1 else es
def putM (s p : Int) (x : Wd) (es : List En) : List En := match x with
  | .frame f w => last2 (es.filter (keep [(s, p)]) ++ [⟨s, p, f, w⟩])
  | _ => es.filter (keep [(s, p)])
theorem cut_last2 (xs : List V) : cutV xs (some (-2)) none = xs.drop (xs.length - 2) := by
  unfold cutV
  have e1 : HT.sIx xs.length 0 (some (-2)) = xs.length - 2 := by
    show (if (-2 : Int) < 0 then ((-2 : Int) + (xs.length : Int)).toNat else min (-2 : Int).toNat xs.length) = _
    rw [if_pos (by decide)]
    omega
  rw [e1, HT.sIx_none]
  refine List.take_of_length_le ?_
  rw [List.length_drop]
  omega
theorem last2_drop (es : List En) (e : En) {n : Nat} (hn : n = es.length + 1 ∧ es.length ≤ 2) : (es ++ [e]).drop (n - 2) = last2 (es ++ [e]) := by
  unfold last2
  rw [List.length_append, List.length_singleton]
  by_cases h : 2 < es.length + 1
  · rw [if_pos h, show n - 2 = 1 by omega]
  · rw [if_neg h, show n - 2 = 0 by omega]
    rfl
def midM (s p : Int) (x : Wd) (es : List En) : List En := match x with
  | .frame f w => es.filter (keep [(s, p)]) ++ [⟨s, p, f, w⟩]
  | _ => es.filter (keep [(s, p)])
theorem last2_mid (s p : Int) (x : Wd) {es : List En} (h : es.length ≤ 2) : last2 (midM s p x es) = putM s p x es := by
  have l : (es.filter (keep [(s, p)])).length ≤ 2 := Nat.le_trans (List.length_filter_le _ _) h
  cases x with
  | frame f w => rfl
  | _ => exact if_neg (by show ¬ 2 < (es.filter (keep [(s, p)])).length; omega)
theorem putM_len (s p : Int) (x : Wd) {es : List En} (h : es.length ≤ 2) : (putM s p x es).length ≤ 2 := by
  have l : (es.filter (keep [(s, p)])).length ≤ 2 := Nat.le_trans (List.length_filter_le _ _) h
  cases x with
  | frame f w =>
    show (last2 _).length ≤ 2
    unfold last2
    split
    · rw [List.length_drop, List.length_append, List.length_singleton]
      omega
    · omega
  | _ => exact l
theorem midM_len (s p : Int) (x : Wd) {es : List En} (h : es.length ≤ 2) : (midM s p x es).length ≤ 3 := by
  have l : (es.filter (keep [(s, p)])).length ≤ 2 := Nat.le_trans (List.length_filter_le _ _) h
  cases x with
  | frame f w =>
    show (_ ++ [_]).length ≤ 3
    rw [List.length_append, List.length_singleton]
    omega
  | _ => exact Nat.le_trans l (by decide)
theorem keep_one (s p : Int) (e : En) : keep [(s, p)] e = !decide ((e.s, e.p) = (s, p)) := by
  unfold keep
  simp only [List.any_cons, List.any_nil, Bool.or_false]
  by_cases h : (s, p) = (e.s, e.p)
  · rw [decide_eq_true h, decide_eq_true h.symm]
  · rw [decide_eq_false h, decide_eq_false (fun z => h z.symm)]
def fits (s p : Int) (wr : Bool) (e : En) : Bool := decide ((e.s, e.p) = (s, p)) && (e.w || !wr)
def frameM (s p : Int) (wr : Bool) (es : List En) : Option Int := (es.find? (fits s p wr)).map (·.f)
def optV : Option Int → V
  | none => .non
  | some i => .int i
theorem find_at {es : List En} {c : En → Bool} : ∀ {i : Nat} {e : En}, es[i]? = some e → (∀ y ∈ es.take i, c y = false) → c e = true → es.find? c = some e := by
  induction es with
  | nil => intro i e h _ _; simp at h
  | cons x es ih =>
    intro i e h hn hc
    cases i with
    | zero =>
      simp at h
      subst h
      simp [hc]
    | succ i =>
      have hx : c x = false := hn x (by simp)
      rw [List.find?_cons, hx]
      exact ih (i := i) (by simpa using h) (fun y hy => hn y (by simp [hy])) hc
theorem find_no {es : List En} {c : En → Bool} (h : ∀ y ∈ es, c y = false) : es.find? c = none := List.find?_eq_none.mpr fun y hy => by simp [h y hy]
end Nk
/-! Tests of data (whole numbers, tuples, words), the sizes' fields, promises that several laws share. -/
namespace Wk
open PySem PySem.Spec PyProof.Rows L2 Dk Ek Nk
/-! ### tests of data -/
def wholeD : PyData → Bool
  | .int _ => true
  | _ => false
def belowD (d : PyData) (n : Int) : Bool := match d with
  | .int i => decide (0 ≤ i) && decide (i < n)
  | _ => false
def tupD (d : PyData) (n : Int) : Bool := match d with
  | .tuple ds => decide ((ds.length : Int) = n)
  | _ => false
theorem tup2 {d : PyData} (h : tupD d 2 = true) : ∃ x y, d = .tuple [x, y] := by
  cases d with
  | tuple ds =>
    match ds, h with
    | [x, y], _ => exact ⟨x, y, rfl⟩
    | [], h => simp [tupD] at h
    | [x], h => simp [tupD] at h
    | x :: y :: z :: r, h =>
      simp only [tupD, List.length_cons, decide_eq_true_eq] at h
      omega
  | _ => simp [tupD] at h
theorem tup3 {d : PyData} (h : tupD d 3 = true) : ∃ x y z, d = .tuple [x, y, z] := by
  cases d with
  | tuple ds =>
    match ds, h with
    | [x, y, z], _ => exact ⟨x, y, z, rfl⟩
    | [], h => simp [tupD] at h
    | [x], h => simp [tupD] at h
    | [x, y], h => simp [tupD] at h
    | x :: y :: z :: u :: r, h =>
      simp only [tupD, List.length_cons, decide_eq_true_eq] at h
      omega
  | _ => simp [tupD] at h
/-- the value is the text z -/
def isS (d : PyData) (z : Str) : Bool := match d with
  | .str y => y == z
  | _ => false
theorem eqv_str (d : PyData) (z : Str) : PyData.eqv d (.str z) = isS d z := by
  cases d <;> simp [PyData.eqv, isS]
theorem isS_iff {d : PyData} {z : Str} : isS d z = true ↔ d = .str z := by
  cases d <;> simp [isS]
theorem Sh.elem {n : Nat} {ds : List PyData} {d : PyData} (h : Sh n (.tuple ds)) (m : d ∈ ds) : Sh n d := by
  have l := h.lay
  have e := h.deep
  simp only [PyData.canLay0] at l
  simp only [PyData.depth] at e
  have key : ∀ es : List PyData, d ∈ es → PyData.canLayAll0 es = true → d.canLay0 = true ∧ d.depth ≤ PyData.depthAll es := by
    intro es
    induction es with
    | nil => intro m _; exact absurd m List.not_mem_nil
    | cons x es ih =>
      intro m k
      simp only [PyData.canLayAll0, Bool.and_eq_true] at k
      simp only [PyData.depthAll]
      rcases List.mem_cons.mp m with rfl | m
      · exact ⟨k.1, Nat.le_max_left _ _⟩
      · obtain ⟨h1, h2⟩ := ih m k.2
        exact ⟨h1, Nat.le_trans h2 (Nat.le_max_right _ _)⟩
  obtain ⟨h1, h2⟩ := key ds m l
  exact ⟨h1, by omega⟩
theorem sh_str (s : Str) (h : PyData.canLay0 (.str s) = true) : Sh 0 (.str s) := ⟨h, by simp only [PyData.depth]; omega⟩
/-! ### promises of the small tests -/
def spNop (K : PySem.W.Frag) : Sp := fun vs H Q _ => ∃ (a C : Addr), vs = [.ref a] ∧ OexC K C ∧ H a = some (exo a C none) ∧ Q .non H
def spWhole (K : PySem.W.Frag) : Sp := fun vs H Q _ => ∃ (v : V) (d : PyData), vs = [v] ∧ Dp K H v d ∧ Q (.bl (wholeD d)) H
def spBelow (K : PySem.W.Frag) : Sp := fun vs H Q _ => ∃ (v : V) (d : PyData) (n : Int), vs = [v, .int n] ∧ Dp K H v d ∧ Q (.bl (belowD d n)) H
def spTupOf (K : PySem.W.Frag) : Sp := fun vs H Q _ => ∃ (v : V) (d : PyData) (n : Int), vs = [v, .int n] ∧ Dp K H v d ∧ Q (.bl (tupD d n)) H
def spBetween : Sp := fun vs H Q _ => ∃ v l m : Int, vs = [.int v, .int l, .int m] ∧ Q (.bl (decide (l ≤ v) && decide (v ≤ m))) H
/-! ### words that lead to frames -/
def leadsD : PyData → Bool
  | .tuple [x, _, _] => isS x "frame"
  | _ => false
theorem leads_no {d : PyData} (h : tupD d 3 = false) : leadsD d = false := by
  unfold leadsD
  split
  · simp [tupD] at h
  · rfl
theorem leads_yes {d : PyData} (h : leadsD d = true) : ∃ f w, d = .tuple [.str "frame", f, w] := by
  unfold leadsD at h
  split at h
  · rename_i x f w
    rw [isS_iff] at h
    exact ⟨f, w, by rw [h]⟩
  · cases h
def spLeads (K : PySem.W.Frag) : Sp := fun vs H Q _ => ∃ (y : V) (d : PyData), vs = [y] ∧ Dp K H y d ∧ Sh 60 d ∧ Q (.bl (leadsD d)) H
/-! ### the sizes -/
def szF (p f b : Int) : List (Str × V) := [("processors", .int p), ("frames", .int f), ("blocks", .int b), ("_acknowledges", .int 1), ("_words", .int (1 + p)), ("_frame_cells", .int (1 + p + 4 * 8)),
  ("_swap_blocks", .int (1 + p + 4 * 8 + 2 * f)), ("_file_blocks", .int (1 + p + 4 * 8 + 2 * f + b))]
def okSz (p f b : Int) : Bool := decide (1 ≤ p) && decide (p ≤ 3) && (decide (2 ≤ f) && decide (f ≤ 12)) && (decide (0 ≤ b) && decide (b ≤ 12))
def spSizesInit (C N : Addr) : Sp := fun vs H Q E => ∃ (z dx : Addr) (p f b : Int), vs = [.ref z, .int p, .int f, .int b] ∧ H z = some (.ins C dx []) ∧
  (okSz p f b = true → ∀ H', SameBut z H H' → H' z = some (.ins C dx (szF p f b)) → Q .non H') ∧ (okSz p f b = false → ∀ H', Same H H' → E (.ref N) none H')
/-! ### table words -/
def isStr : PyData → Bool
  | .str _ => true
  | _ => false
theorem kit_str {K : PySem.W.Frag} (d : PyData) : PySem.W.kitOne K (.type (tyN d)) (.type "str") = some (isStr d) := by
  refine (kit_ty (kits_at (by decide +kernel : kits "str" = [some false, some false, some false, some true, some false, some false, some false]) d)).trans ?_
  cases d <;> rfl
def frB (F : Int) : List PyData → Bool
  | [x, y] => belowD x F && isBool y
  | _ => false
def swB (B : Int) : List PyData → Bool
  | [x] => belowD x B
  | _ => false
def flB : List PyData → Bool
  | [x, y] => belowD x 2 && belowD y 4
  | _ => false
def wordB (F B : Int) (x : PyData) (r : List PyData) : Bool :=
  if isS x "frame" = true then frB F r else if isS x "swap" = true then swB B r else if isS x "file" = true then flB r else isS x "held" && r.isEmpty
def wordM (F B : Int) : PyData → Bool
  | .none => true
  | .tuple (x :: r) => wordB F B x r
  | _ => false
theorem frB_no {F : Int} {r : List PyData} (h : r.length ≠ 2) : frB F r = false := by
  unfold frB
  split
  · exact absurd rfl h
  · rfl
theorem swB_no {F : Int} {r : List PyData} (h : r.length ≠ 1) : swB F r = false := by
  unfold swB
  split
  · exact absurd rfl h
  · rfl
theorem flB_no {r : List PyData} (h : r.length ≠ 2) : flB r = false := by
  unfold flB
  split
  · exact absurd rfl h
  · rfl
theorem len2 {r : List PyData} (h : r.length = 2) : ∃ x y, r = [x, y] := by
  match r, h with
  | [x, y], _ => exact ⟨x, y, rfl⟩
theorem len1 {r : List PyData} (h : r.length = 1) : ∃ x, r = [x] := by
  match r, h with
  | [x], _ => exact ⟨x, rfl⟩
theorem isS_ne {d : PyData} {y z : Str} (h : isS d y = true) (n : (y == z) = false) : isS d z = false := by
  rw [isS_iff] at h
  subst h
  exact n
/-- the words whose numbers exist -/
inductive W2 where
  | frame (f : Int) (w : Bool)
  | non
  | swap (n : Int)
  | file (f p : Int)
  | held
def w2D : W2 → PyData
  | .frame f w => .tuple [.str "frame", .int f, .bool w]
  | .non => .none
  | .swap n => .tuple [.str "swap", .int n]
  | .file f p => .tuple [.str "file", .int f, .int p]
  | .held => .tuple [.str "held"]
theorem below_int {d : PyData} {n : Int} (h : belowD d n = true) : ∃ i, d = .int i := by
  cases d with
  | int i => exact ⟨i, rfl⟩
  | _ => simp [belowD] at h
theorem bool_of {d : PyData} (h : isBool d = true) : ∃ b, d = .bool b := by
  cases d with
  | bool b => exact ⟨b, rfl⟩
  | _ => simp [isBool] at h
theorem w2_of {F B : Int} {d : PyData} (h : wordM F B d = true) : ∃ x, d = w2D x := by
  unfold wordM at h
  split at h
  · exact ⟨.non, rfl⟩
  · rename_i x r
    unfold wordB at h
    split at h
    · rename_i e
      rw [isS_iff] at e
      unfold frB at h
      split at h
      · rename_i u v
        rw [Bool.and_eq_true] at h
        obtain ⟨i, rfl⟩ := below_int h.1
        obtain ⟨b, rfl⟩ := bool_of h.2
        exact ⟨.frame i b, by rw [e]; rfl⟩
      · cases h
    · split at h
      · rename_i e
        rw [isS_iff] at e
        unfold swB at h
        split at h
        · obtain ⟨i, rfl⟩ := below_int h
          exact ⟨.swap i, by rw [e]; rfl⟩
        · cases h
      · split at h
        · rename_i e
          rw [isS_iff] at e
          unfold flB at h
          split at h
          · rw [Bool.and_eq_true] at h
            obtain ⟨i, rfl⟩ := below_int h.1
            obtain ⟨j, rfl⟩ := below_int h.2
            exact ⟨.file i j, by rw [e]; rfl⟩
          · cases h
        · rw [Bool.and_eq_true, isS_iff] at h
          obtain ⟨e, e2⟩ := h
          exact ⟨.held, by rw [e, List.isEmpty_iff.mp e2]; rfl⟩
  · cases h
def W2.frame? : W2 → Option Int
  | .frame f _ => some f
  | _ => none
def W2.block? : W2 → Option Int
  | .swap n => some n
  | _ => none
def W2.wr : W2 → Bool
  | .frame _ w => w
  | _ => false
def W2.less : W2 → W2
  | .frame f _ => .frame f false
  | x => x
def W2.leads : W2 → Bool
  | .frame _ _ => true
  | _ => false
theorem leads_w2 (x : W2) : leadsD (w2D x) = x.leads := by
  cases x with
  | frame f w => rfl
  | file f p => exact (by decide : isS (.str "file") "frame" = false)
  | _ => rfl
theorem sh_c {n : Nat} {d : PyData} {ds : List PyData} (h : Sh n d) (k : ∀ x ∈ ds, Sh n x) : ∀ x ∈ d :: ds, Sh n x := fun x hx => (List.mem_cons.mp hx).elim (fun e => e ▸ h) (k x)
theorem sh_n {n : Nat} : ∀ x ∈ ([] : List PyData), Sh n x := fun _ h => absurd h List.not_mem_nil
theorem sh_w2 (x : W2) : Sh 1 (w2D x) := by
  have sF : Sh 0 (.str "frame") := sh_str _ (by decide +kernel)
  have sS : Sh 0 (.str "swap") := sh_str _ (by decide +kernel)
  have sL : Sh 0 (.str "file") := sh_str _ (by decide +kernel)
  have sH : Sh 0 (.str "held") := sh_str _ (by decide +kernel)
  cases x with
  | non => exact sh_none.up (by decide)
  | frame f w => exact sh_tup (sh_c sF (sh_c (sh_int _) (sh_c (sh_bool _) sh_n)))
  | swap n => exact sh_tup (sh_c sS (sh_c (sh_int _) sh_n))
  | file f p => exact sh_tup (sh_c sL (sh_c (sh_int _) (sh_c (sh_int _) sh_n)))
  | held => exact sh_tup (sh_c sH sh_n)
def spIsWord (K : PySem.W.Frag) (C : Addr) : Sp := fun vs H Q _ => ∃ (y : V) (d : PyData) (z dx : Addr) (p f b : Int), vs = [y, .ref z] ∧ Dp K H y d ∧ Sh 60 d ∧ H z = some (.ins C dx (szF p f b)) ∧ ∀ H', Same H H' → Q (.bl (wordM f b d)) H'
def spFrameOf (K : PySem.W.Frag) : Sp := fun vs H Q _ => ∃ (y : V) (x : W2), vs = [y] ∧ Dp K H y (w2D x) ∧ Q (optV x.frame?) H
def spBlockOf (K : PySem.W.Frag) : Sp := fun vs H Q _ => ∃ (y : V) (x : W2), vs = [y] ∧ Dp K H y (w2D x) ∧ Q (optV x.block?) H
def spIsWr (K : PySem.W.Frag) : Sp := fun vs H Q _ => ∃ (y : V) (x : W2), vs = [y] ∧ Dp K H y (w2D x) ∧ Q (.bl x.wr) H
def spReadOnly (K : PySem.W.Frag) : Sp := fun vs H Q _ => ∃ (y : V) (x : W2), vs = [y] ∧ Dp K H y (w2D x) ∧ ∀ y' H', Same H H' → Dp K H' y' (w2D x.less) → Q y' H'
end Wk
/-! Loops and comprehensions over enumerate(list), zip of two tuples. -/
namespace Lk
open PySem PySem.Spec PyProof.Rows L2 RZ
theorem for_enum {K : PySem.W.Frag} {a : Addr} {xs : List V} {g : TG} {tb : TS} {D : Ends} {σ : L2.St} {H : Hp} (Pv : Nat → L2.St → Hp → Prop) (h0 : Pv 0 σ H) (hq : ∀ i σ H, Pv i σ H → SqL K H a xs)
    (hs : ∀ (i : Nat) (x : V) (T : Addr) (σ : L2.St) (H : Hp), xs[i]? = some x → Pv i σ H → H T = none → g (.ref T) σ (upd H T (.tup [.int (i : Nat), x])) fun σ2 H2 => tb { D with nx := Pv (i + 1), ct := Pv (i + 1), bk := D.nx } σ2 H2) (hd : ∀ σ H, Pv xs.length σ H → D.nx σ H) :
    ∃ W : Nat → Nat → L2.St → Hp → Prop, (∃ m, W 0 m σ H) ∧ ∀ i m σ H, W i m σ H →
      ((Ite K a).stop i H ∧ D.nx σ H) ∨ ((Ite K a).go i H ∧ ∃ N : L2.St → Hp → Prop, (∀ σ' H', N σ' H' → ∃ m', m' < m ∧ W (i + 1) m' σ' H') ∧ ∀ v H', (Ite K a).yld i H v H' → g v σ H' fun σ2 H2 => tb { D with nx := N, ct := N, bk := D.nx } σ2 H2) := by
  refine ⟨fun i m σ H => m = xs.length - i ∧ i ≤ xs.length ∧ Pv i σ H, ⟨xs.length, rfl, Nat.zero_le _, h0⟩, ?_⟩
  rintro i m σ H ⟨rfl, hi, p⟩
  have qx := hq i σ H p
  by_cases hlt : i < xs.length
  · have hx : xs[i]? = some xs[i] := List.getElem?_eq_getElem hlt
    refine .inr ⟨⟨xs, _, qx, hx⟩, Pv (i + 1), fun σ' H' p' => ⟨xs.length - (i + 1), by omega, rfl, hlt, p'⟩, fun v H' y => ?_⟩
    obtain ⟨T, x', rfl, hT, rfl, f1⟩ := y
    exact hs i x' T σ H (f1 xs qx) p hT
  · have e : i = xs.length := by omega
    subst e
    exact .inl ⟨⟨xs, qx, Nat.le_refl _⟩, hd σ H p⟩
theorem lc_enum {K : PySem.W.Frag} {a : Addr} {xs : List V} {g : TG} {tt : TT} {te : TE} {vs : List Nat} {σ : L2.St} {H1 : Hp} {D : Addr} {Qd : Hp → Prop} (Pv : Nat → Hp → Prop) (h0 : Pv 0 (upd H1 D (.lst []))) (hl : ∀ i H, i ≤ xs.length → Pv i H → SqL K H a xs)
    (hs : ∀ (i : Nat) (x : V) (T : Addr) (H : Hp), xs[i]? = some x → Pv i H → H T = none → g (.ref T) (wipe σ vs) (upd H T (.tup [.int (i : Nat), x])) fun σ2 H2 => wipe σ2 vs = wipe σ vs ∧ tt σ2 H2 fun b H3 =>
      if b = true then te σ2 H3 fun y H4 => ∃ acc, H4 D = some (.lst acc) ∧ acc.length < sizeLine ∧ Pv (i + 1) (upd H4 D (.lst (acc ++ [y]))) else Pv (i + 1) H3) (hd : ∀ H, Pv xs.length H → Qd H) :
    ∃ W : Nat → Nat → Hp → Prop, (∃ m, W 0 m (upd H1 D (.lst []))) ∧ ∀ i m H, W i m H →
      ((Ite K a).stop i H ∧ Qd H) ∨ ((Ite K a).go i H ∧ ∃ Nx : Hp → Prop, (∀ H', Nx H' → ∃ m', m' < m ∧ W (i + 1) m' H') ∧ ∀ x H', (Ite K a).yld i H x H' → g x (wipe σ vs) H' fun σ2 H2 => wipe σ2 vs = wipe σ vs ∧ tt σ2 H2 fun b H3 =>
        if b = true then te σ2 H3 fun y H4 => ∃ acc, H4 D = some (.lst acc) ∧ acc.length < sizeLine ∧ Nx (upd H4 D (.lst (acc ++ [y]))) else Nx H3) := by
  refine ⟨fun i m H => m = xs.length - i ∧ i ≤ xs.length ∧ Pv i H, ⟨xs.length, by simp, Nat.zero_le _, h0⟩, ?_⟩
  rintro i m H ⟨rfl, hi, p⟩
  have q := hl i H hi p
  by_cases hlt : i < xs.length
  · refine .inr ⟨⟨xs, xs[i], q, by simp [hlt]⟩, Pv (i + 1), fun H' p' => ⟨xs.length - (i + 1), by omega, rfl, hlt, p'⟩, fun x H' y => ?_⟩
    obtain ⟨T, x', rfl, hT, rfl, f1⟩ := y
    exact hs i x' T _ (f1 xs q) p hT
  · have e : i = xs.length := by omega
    subst e
    exact .inl ⟨⟨xs, q, Nat.le_refl _⟩, hd H p⟩
theorem lc_zipT {K : PySem.W.Frag} {a b : Addr} {xs ys : List V} {g : TG} {tt : TT} {te : TE} {vs : List Nat} {σ : L2.St} {H1 : Hp} {D : Addr} {Qd : Hp → Prop} (he : xs.length = ys.length) (Pv : Nat → Hp → Prop) (h0 : Pv 0 (upd H1 D (.lst []))) (hl : ∀ i H, i ≤ xs.length → Pv i H → SqT K H a xs ∧ SqT K H b ys)
    (hs : ∀ (i : Nat) (x y : V) (T : Addr) (H : Hp), xs[i]? = some x → ys[i]? = some y → Pv i H → H T = none → g (.ref T) (wipe σ vs) (upd H T (.tup [x, y])) fun σ2 H2 => wipe σ2 vs = wipe σ vs ∧ tt σ2 H2 fun b H3 =>
      if b = true then te σ2 H3 fun y H4 => ∃ acc, H4 D = some (.lst acc) ∧ acc.length < sizeLine ∧ Pv (i + 1) (upd H4 D (.lst (acc ++ [y]))) else Pv (i + 1) H3) (hd : ∀ H, Pv xs.length H → Qd H) :
    ∃ W : Nat → Nat → Hp → Prop, (∃ m, W 0 m (upd H1 D (.lst []))) ∧ ∀ i m H, W i m H →
      ((ItzT K a b).stop i H ∧ Qd H) ∨ ((ItzT K a b).go i H ∧ ∃ Nx : Hp → Prop, (∀ H', Nx H' → ∃ m', m' < m ∧ W (i + 1) m' H') ∧ ∀ x H', (ItzT K a b).yld i H x H' → g x (wipe σ vs) H' fun σ2 H2 => wipe σ2 vs = wipe σ vs ∧ tt σ2 H2 fun b H3 =>
        if b = true then te σ2 H3 fun y H4 => ∃ acc, H4 D = some (.lst acc) ∧ acc.length < sizeLine ∧ Nx (upd H4 D (.lst (acc ++ [y]))) else Nx H3) := by
  refine ⟨fun i m H => m = xs.length - i ∧ i ≤ xs.length ∧ Pv i H, ⟨xs.length, by simp, Nat.zero_le _, h0⟩, ?_⟩
  rintro i m H ⟨rfl, hi, p⟩
  obtain ⟨qx, qy⟩ := hl i H hi p
  by_cases hlt : i < xs.length
  · have hlt2 : i < ys.length := by omega
    refine .inr ⟨⟨xs, ys, xs[i], ys[i], qx, qy, by simp [hlt], by simp [hlt2]⟩, Pv (i + 1), fun H' p' => ⟨xs.length - (i + 1), by omega, rfl, hlt, p'⟩, fun x H' y => ?_⟩
    obtain ⟨T, x', y', rfl, hT, rfl, f1, f2⟩ := y
    exact hs i x' y' T _ (f1 xs qx) (f2 ys qy) p hT
  · have e : i = xs.length := by omega
    subst e
    exact .inl ⟨⟨xs, ys, qx, qy, Or.inl (Nat.le_refl _)⟩, hd H p⟩
theorem at_nat {xs : List V} {n : Nat} {x : V} (h : xs[n]? = some x) : atI xs (n : Int) = some x := at_of (j := n) rfl h
theorem ixN_nat {len n : Nat} (h : n < len) : ixN len (n : Int) = some n := by
  unfold ixN
  simp [seqIndex?]
  omega
end Lk
/-! Owners of frames and blocks: lists of tuples within a list; the held flags; list.remove over data. -/
namespace Fk
open PySem PySem.Spec PyProof.Rows L2 Dk Ek Nk Wk

/-! ### list.remove over data -/
def rRemD (K : PySem.W.Frag) : V → List V → Hp → VK → Prop := fun x xs H Q => ∃ (l : Addr) (vs : List V) (y : V) (d : PyData) (ds : List PyData) (j : Nat) (z : PyData), x = .ref l ∧ xs = [y] ∧ H l = some (.lst vs) ∧ DpAll K H vs ds ∧ Dp K H y d ∧
  SeqAt.shaped (.list ds) = true ∧ SeqAt.shaped d = true ∧ ds[j]? = some z ∧ PyData.eqv z d = true ∧ (∀ (m : Nat) (z' : PyData), m < j → ds[m]? = some z' → PyData.eqv z' d = false) ∧ Q .non (upd H l (.lst (vs.eraseIdx j)))
theorem vals_erase : ∀ {xs : List V} {us : List Value} (j : Nat), Vals xs us → Vals (xs.eraseIdx j) (us.eraseIdx j)
  | _, _, _, .nil => .nil
  | _, _, 0, .cons _ r => r
  | _, _, j + 1, .cons a r => .cons a (vals_erase j r)
section
variable {X : Cx}
theorem mt_removeD (hu : X.A.units + 65 < cLine) : MtM X "list.remove" (rRemD X.K) := by
  intro pins s σ H x xs v us Q I rx rxs h
  obtain ⟨l, vs, y, d, ds, j, z, rfl, rfl, hl, ha, hy, sl, sd, hz, hzj, hno, q⟩ := h
  cases rx
  cases rxs with
  | cons ry rt =>
    rename_i uy ut
    cases rt
    obtain ⟨bs, r1⟩ := Dp.reads I d y uy hy ry
    have hxs : PyData.canLayAll0 ds = true := SeqAt.canLay_of_shaped sl
    have d2 := SeqAt.depth_of_shaped sd
    have hroom : X.A.units + 1 + min (PyData.depthAll ds) d.depth < cLine := by
      have := Nat.min_le_right (PyData.depthAll ds) d.depth
      omega
    obtain ⟨z9, its, n, rv, hlen, ho⟩ := I.lstM hl
    obtain ⟨as, h4⟩ := Dp.readsAll I ds _ its ha rv
    have hn : its.length = ds.length := SeqAt.ReadsAll.length ds its as h4
    have hmap : its.map (SeqAt.readOf s.heap) = ds := SeqAt.readsAll_map ds its as hxs h4
    have hsl := sizeLine_eq
    obtain ⟨hjd, _⟩ := List.getElem?_eq_some_iff.mp hz
    have hjl : j < its.length := by omega
    have hj : j < its.toArray.size := by simpa using hjl
    have at_ : ∀ (m : Nat) (hm : m < its.toArray.size) (z' : PyData), ds[m]? = some z' → SeqAt.readOf s.heap its.toArray[m] = z' := by
      intro m hm z' hz'
      have hml : m < its.length := by simpa using hm
      rw [← hmap, List.getElem?_map, List.getElem?_eq_getElem hml] at hz'
      have e1 : SeqAt.readOf s.heap its[m] = z' := Option.some.inj (show some (SeqAt.readOf s.heap its[m]) = some z' from hz')
      simpa using e1
    refine call_meets PySem.F.slot_list_remove ⟨_, ho, rfl⟩ PySem.F.entry_list_remove (PySem.F.args_list_remove_2 _ _)
      (SeqAt.list_removeAt l its.toArray n none #[] uy (fun u => PyData.eqv (SeqAt.readOf s.heap u) d) j hj ?_ ?_ (by rw [List.size_toArray]; omega)) ⟨ho, SeqAt.items_eqAt (vs := its.toArray) (show ReadsAll s.heap its.toArray.toList ds as from h4) r1 hxs (SeqAt.canLay_of_shaped sd) hroom, ?_⟩
    · show PyData.eqv (SeqAt.readOf s.heap its.toArray[j]) d = true
      rw [at_ j hj z hz]
      exact hzj
    · intro m hm hmj
      have hmd : m < ds.length := by omega
      have hz' : ds[m]? = some ds[m] := List.getElem?_eq_getElem hmd
      show PyData.eqv (SeqAt.readOf s.heap its.toArray[m]) d = false
      rw [at_ m hm _ hz']
      exact hno m _ hmj hz'
    · refine ⟨.non, _, I.lset (its' := its.eraseIdx j) (t' := s.toks) hl ho ?_ (vals_erase j rv) ?_, rfl, q⟩
      · show its.toArray.eraseIdxIfInBounds j = (its.eraseIdx j).toArray
        rw [List.eraseIdxIfInBounds_toArray]
      · have := List.length_eraseIdx_le vs j
        omega
end

/-! ### owners -/
inductive Ow where
  | pr (s p : Int)
  | fl (f p : Int)
  deriving DecidableEq
def oV : Ow → List V
  | .pr s p => [.int s, .int p]
  | .fl f p => [.str "file", .int f, .int p]
def oD : Ow → PyData
  | .pr s p => .tuple [.int s, .int p]
  | .fl f p => .tuple [.str "file", .int f, .int p]
theorem shO (o : Ow) : Sh 1 (oD o) := by
  have sL : Sh 0 (.str "file") := sh_str _ (by decide +kernel)
  cases o with
  | pr s p => exact sh_tup (sh_c (sh_int _) (sh_c (sh_int _) sh_n))
  | fl f p => exact sh_tup (sh_c sL (sh_c (sh_int _) (sh_c (sh_int _) sh_n)))
theorem eqv_oD (a b : Ow) : PyData.eqv (oD a) (oD b) = decide (a = b) := by
  rw [Bool.eq_iff_iff]
  cases a <;> cases b <;> simp [oD, PyData.eqv, PyData.eqvAll]
def wV (z : Addr × Ow) : V := .ref z.1
def OAll (H : Hp) (c : List (Addr × Ow)) : Prop := ∀ z ∈ c, H z.1 = some (.tup (oV z.2))
theorem o_dp {K : PySem.W.Frag} {H : Hp} {t : Addr} {o : Ow} (h : H t = some (.tup (oV o))) : Dp K H (.ref t) (oD o) := by
  cases o with
  | pr s p => exact .tup (SqT.of h) (.cons (.int _) (.cons (.int _) .nil))
  | fl f p => exact .tup (SqT.of h) (.cons (.str _) (.cons (.int _) (.cons (.int _) .nil)))
theorem OAll.dp {K : PySem.W.Frag} {H : Hp} : ∀ {c : List (Addr × Ow)}, OAll H c → DpAll K H (c.map wV) ((c.map Prod.snd).map oD)
  | [], _ => .nil
  | z :: c, h => .cons (o_dp (h z (List.mem_cons_self ..))) (OAll.dp fun y hy => h y (List.mem_cons_of_mem _ hy))
theorem OAll.kt {H H' : Hp} {c : List (Addr × Ow)} (h : OAll H c) (e : KT H H') : OAll H' c := fun z hz => e _ _ (h z hz) True.intro
theorem shOs (os : List Ow) : Sh 2 (.list (os.map oD)) := sh_lst fun d hd => by
  obtain ⟨e, _, rfl⟩ := List.mem_map.mp hd
  exact shO e
theorem any_oD (os : List Ow) (o : Ow) : ((os.map oD).any fun z => PyData.eqv z (oD o)) = decide (o ∈ os) := by
  rw [List.any_map]
  induction os with
  | nil => rfl
  | cons a os ih =>
    simp only [List.any_cons, List.mem_cons, Function.comp] at ih ⊢
    rw [ih, eqv_oD]
    by_cases h : o = a
    · simp [h]
    · have h2 : ¬ a = o := fun z => h z.symm
      simp [h, h2]
theorem any_intD (ns : List Int) (n : Int) : ((ns.map PyData.int).any fun z => PyData.eqv z (.int n)) = decide (n ∈ ns) := by
  rw [List.any_map]
  induction ns with
  | nil => rfl
  | cons a ns ih =>
    simp only [List.any_cons, List.mem_cons, Function.comp] at ih ⊢
    rw [ih]
    by_cases h : n = a
    · simp [h, PyData.eqv]
    · have : ¬ a = n := fun z => h z.symm
      simp [h, this, PyData.eqv]
theorem shInts (ns : List Int) : Sh 1 (.list (ns.map PyData.int)) := sh_lst fun d hd => by
  obtain ⟨e, _, rfl⟩ := List.mem_map.mp hd
  exact sh_int e
theorem ints_dp {K : PySem.W.Frag} {H : Hp} {t : Addr} {ns : List Int} (h : SqL K H t (ns.map V.int)) : Dp K H (.ref t) (.list (ns.map PyData.int)) := .lst h (dpAll_ints ns)
theorem eqv_nilD (ds : List PyData) : PyData.eqv (.list ds) (.list []) = ds.isEmpty := by
  cases ds <;> simp [PyData.eqv, PyData.eqvAll]
theorem shNil : Sh 1 (.list []) := sh_lst sh_n

/-! ### what a call may change -/
def Keep (F : List Addr) (H H' : Hp) : Prop := ∀ a o, a ∉ F → H a = some o → H' a = some o
theorem Keep.same {F : List Addr} {H H' : Hp} (e : Same H H') : Keep F H H' := fun a o _ h => e a o h
theorem Keep.trans {F : List Addr} {H H1 H2 : Hp} (e : Keep F H H1) (f : Keep F H1 H2) : Keep F H H2 := fun a o n h => f a o n (e a o n h)
theorem Keep.put {F : List Addr} {H : Hp} {a : Addr} {o : HO} (h : a ∈ F) : Keep F H (upd H a o) := fun x u n k => (upd_ne (by rintro rfl; exact n h)).trans k
theorem Keep.up {F G : List Addr} {H H' : Hp} (e : Keep F H H') (s : ∀ a ∈ F, a ∈ G) : Keep G H H' := fun a o n h => e a o (fun z => n (s a z)) h

theorem nodup_at {α : Type} : ∀ {l : List α}, l.Nodup → ∀ {i j : Nat} (hi : i < l.length) (hj : j < l.length), l[i] = l[j] → i = j
  | [], _, i, j, hi, _, _ => absurd hi (Nat.not_lt_zero _)
  | x :: l, h, 0, 0, _, _, _ => rfl
  | x :: l, h, 0, j + 1, _, hj, e => by
    have := (List.nodup_cons.mp h).1
    simp only [List.getElem_cons_zero, List.getElem_cons_succ] at e
    exact absurd (e ▸ List.getElem_mem _) this
  | x :: l, h, i + 1, 0, hi, _, e => by
    have := (List.nodup_cons.mp h).1
    simp only [List.getElem_cons_zero, List.getElem_cons_succ] at e
    exact absurd (e ▸ List.getElem_mem _) this
  | x :: l, h, i + 1, j + 1, hi, hj, e => congrArg (· + 1) (nodup_at (List.nodup_cons.mp h).2 (Nat.lt_of_succ_lt_succ hi) (Nat.lt_of_succ_lt_succ hj) (by simpa only [List.getElem_cons_succ] using e))
/-! ### the owners of frames or blocks -/
/-- rows of owners: lists at the addresses as, what they hold is cs -/
structure Rows (H : Hp) (as : List Addr) (cs : List (List (Addr × Ow))) : Prop where
  len : as.length = cs.length
  row : ∀ (j : Nat) (p : Addr) (c : List (Addr × Ow)), as[j]? = some p → cs[j]? = some c → H p = some (.lst (c.map wV))
  tup : ∀ c ∈ cs, OAll H c
theorem Rows.same {H H' : Hp} {as : List Addr} {cs : List (List (Addr × Ow))} (h : Rows H as cs) (e : Same H H') : Rows H' as cs :=
  ⟨h.len, fun j p c h1 h2 => e _ _ (h.row j p c h1 h2), fun c hc z hz => e _ _ (h.tup c hc z hz)⟩
theorem Rows.keep {H H' : Hp} {as F : List Addr} {cs : List (List (Addr × Ow))} (h : Rows H as cs) (e : Keep F H H') (n : ∀ p ∈ as, p ∉ F) (k : KT H H') : Rows H' as cs :=
  ⟨h.len, fun j p c h1 h2 => e _ _ (n p (mem_of_get h1)) (h.row j p c h1 h2), fun c hc => (h.tup c hc).kt k⟩
/-- one row is written -/
theorem Rows.put {H : Hp} {as : List Addr} {cs : List (List (Addr × Ow))} {j : Nat} {p : Addr} {c : List (Addr × Ow)} (h : Rows H as cs) (nd : as.Nodup) (hp : as[j]? = some p) (ho : OAll H c) :
    Rows (upd H p (.lst (c.map wV))) as (cs.set j c) := by
  have hj : j < as.length := (List.getElem?_eq_some_iff.mp hp).1
  have hc0 : ∃ c0, cs[j]? = some c0 := ⟨cs[j]'(by rw [← h.len]; exact hj), List.getElem?_eq_getElem _⟩
  obtain ⟨c0, hc0⟩ := hc0
  have kt : KT H (upd H p (.lst (c.map wV))) := KT.lst (h.row j p c0 hp hc0)
  refine ⟨by rw [List.length_set]; exact h.len, fun i q e h1 h2 => ?_, fun e he => ?_⟩
  · by_cases ij : i = j
    · subst ij
      rw [h1] at hp
      cases hp
      rw [List.getElem?_set_self (by rw [← h.len]; exact hj)] at h2
      cases h2
      exact upd_same
    · rw [List.getElem?_set_ne (Ne.symm ij)] at h2
      have ne : q ≠ p := fun z => ij (by
        obtain ⟨hi, e1⟩ := List.getElem?_eq_some_iff.mp h1
        obtain ⟨_, e2⟩ := List.getElem?_eq_some_iff.mp hp
        exact nodup_at nd hi _ (by rw [e1, e2, z]))
      rw [upd_ne ne]
      exact h.row i q e h1 h2
  · rcases List.mem_or_eq_of_mem_set he with he | rfl
    · exact (h.tup e he).kt kt
    · exact ho.kt kt
structure OwnAt (C : Addr) (H : Hp) (o dx L M : Addr) (as : List Addr) (cs : List (List (Addr × Ow))) (hs : List Bool) : Prop where
  ins : H o = some (.ins C dx [("_owners", .ref L), ("_held", .ref M)])
  own : H L = some (.lst (as.map V.ref))
  rows : Rows H as cs
  held : H M = some (.lst (hs.map V.bl))
  lenH : hs.length = cs.length
  nd : (L :: M :: as).Nodup
  few : cs.length ≤ 100
  thin : ∀ c ∈ cs, c.length ≤ 1000
theorem OwnAt.same {C o dx L M : Addr} {H H' : Hp} {as : List Addr} {cs : List (List (Addr × Ow))} {hs : List Bool} (h : OwnAt C H o dx L M as cs hs) (e : Same H H') : OwnAt C H' o dx L M as cs hs :=
  ⟨e _ _ h.ins, e _ _ h.own, h.rows.same e, e _ _ h.held, h.lenH, h.nd, h.few, h.thin⟩
/-- what another call leaves -/
theorem OwnAt.keep {C o dx L M : Addr} {H H' : Hp} {as F : List Addr} {cs : List (List (Addr × Ow))} {hs : List Bool} (h : OwnAt C H o dx L M as cs hs) (e : Keep F H H') (n : ∀ p ∈ o :: L :: M :: as, p ∉ F) (k : KT H H') : OwnAt C H' o dx L M as cs hs :=
  ⟨e _ _ (n _ (by simp)) h.ins, e _ _ (n _ (by simp)) h.own, h.rows.keep e (fun p hp => n p (by simp [hp])) k, e _ _ (n _ (by simp)) h.held, h.lenH, h.nd, h.few, h.thin⟩
theorem OwnAt.row {C o dx L M : Addr} {H : Hp} {as : List Addr} {cs : List (List (Addr × Ow))} {hs : List Bool} (h : OwnAt C H o dx L M as cs hs) {j : Nat} (hj : j < cs.length) :
    ∃ p, as[j]? = some p ∧ (as.map V.ref)[j]? = some (.ref p) ∧ H p = some (.lst (cs[j].map wV)) ∧ OAll H cs[j] ∧ p ∈ as := by
  have hj2 : j < as.length := by rw [h.rows.len]; exact hj
  refine ⟨as[j], List.getElem?_eq_getElem hj2, by rw [List.getElem?_map, List.getElem?_eq_getElem hj2]; rfl, h.rows.row j _ _ (List.getElem?_eq_getElem hj2) (List.getElem?_eq_getElem hj), h.rows.tup _ (List.getElem_mem hj), List.getElem_mem hj2⟩
theorem OwnAt.flag {C o dx L M : Addr} {H : Hp} {as : List Addr} {cs : List (List (Addr × Ow))} {hs : List Bool} (h : OwnAt C H o dx L M as cs hs) {j : Nat} (hj : j < cs.length) : (hs.map V.bl)[j]? = some (.bl (hs[j]'(by rw [h.lenH]; exact hj))) := by
  rw [List.getElem?_map, List.getElem?_eq_getElem (by rw [h.lenH]; exact hj)]
  rfl
/-- a flag is written -/
theorem OwnAt.setH {C o dx L M : Addr} {H : Hp} {as : List Addr} {cs : List (List (Addr × Ow))} {hs : List Bool} (h : OwnAt C H o dx L M as cs hs) (j : Nat) (b : Bool) :
    OwnAt C (upd H M (.lst ((hs.set j b).map V.bl))) o dx L M as cs (hs.set j b) := by
  have nM := h.nd
  simp only [List.nodup_cons, List.mem_cons, not_or] at nM
  refine ⟨(upd_ne (ne_of h.ins h.held (fun z => nomatch z))).trans h.ins, (upd_ne nM.1.1).trans h.own, h.rows.keep (F := [M]) (Keep.put (by simp)) (fun p hp z => nM.2.1 (List.mem_singleton.mp z ▸ hp)) (KT.lst h.held), upd_same, by rw [List.length_set]; exact h.lenH, h.nd, h.few, h.thin⟩
/-- a row is written -/
theorem OwnAt.setR {C o dx L M : Addr} {H : Hp} {as : List Addr} {cs : List (List (Addr × Ow))} {hs : List Bool} (h : OwnAt C H o dx L M as cs hs) {j : Nat} {p : Addr} {c : List (Addr × Ow)} (hp : as[j]? = some p) (ho : OAll H c) (hl : c.length ≤ 1000) :
    OwnAt C (upd H p (.lst (c.map wV))) o dx L M as (cs.set j c) hs := by
  have nM := h.nd
  simp only [List.nodup_cons, List.mem_cons, not_or] at nM
  have pm := mem_of_get hp
  have hj : j < cs.length := by rw [← h.rows.len]; exact (List.getElem?_eq_some_iff.mp hp).1
  have hr := h.rows.row j p cs[j] hp (List.getElem?_eq_getElem hj)
  refine ⟨(upd_ne (ne_of h.ins hr (fun z => nomatch z))).trans h.ins, (upd_ne (fun z : L = p => nM.1.2 (z.symm ▸ pm))).trans h.own, h.rows.put nM.2.2 hp ho, (upd_ne (fun z : M = p => nM.2.1 (z.symm ▸ pm))).trans h.held, by rw [List.length_set]; exact h.lenH, h.nd, by rw [List.length_set]; exact h.few, fun e he => ?_⟩
  rcases List.mem_or_eq_of_mem_set he with he | rfl
  · exact h.thin e he
  · exact hl

/-! ### mirrors -/
def freeB (cs : List (List (Addr × Ow))) (hs : List Bool) (n : Nat) : Bool := match cs[n]?, hs[n]? with
  | some c, some b => c.isEmpty && !b
  | _, _ => false
def freeL (cs : List (List (Addr × Ow))) (hs : List Bool) : List Nat := (List.range cs.length).filter (freeB cs hs)
def heldL (hs : List Bool) : List Nat := (List.range hs.length).filter fun n => hs[n]?.getD false
def owns (o : Ow) (c : List (Addr × Ow)) : Bool := decide (o ∈ c.map Prod.snd)
def placeM (cs : List (List (Addr × Ow))) (o : Ow) : Option Nat := cs.findIdx? (owns o)
def natV : Option Nat → V
  | none => .non
  | some n => .int n
def nInt (ns : List Nat) : List V := ns.map fun n => V.int (n : Nat)
/-- the victim, from the place on -/
def vicM (cs : List (List (Addr × Ow))) (ps : List Int) (pl : Int) (many : Nat) : Option Nat :=
  ((List.range many).map fun d => ((pl + (d : Nat)) % (many : Int)).toNat).find? fun n => !((cs[n]?.getD []).isEmpty) && !decide ((n : Int) ∈ ps)
theorem freeB_at {cs : List (List (Addr × Ow))} {hs : List Bool} {n : Nat} (h1 : n < cs.length) (h2 : n < hs.length) : freeB cs hs n = (cs[n].isEmpty && !hs[n]) := by
  unfold freeB
  rw [List.getElem?_eq_getElem h1, List.getElem?_eq_getElem h2]

/-! ### promises -/
def inR (n : Int) (m : Nat) : Prop := 0 ≤ n ∧ n < (m : Int)
def spOwnInit (C : Addr) : Sp := fun vs H Q _ => ∃ (o dx : Addr) (many : Nat), vs = [.ref o, .int (many : Nat)] ∧ H o = some (.ins C dx []) ∧ many ≤ 100 ∧
  ∀ H' L M as, SameBut o H H' → H L = none → H M = none → (∀ p ∈ as, H p = none) → OwnAt C H' o dx L M as (List.replicate many []) (List.replicate many false) → Q .non H'
def spCheck (C N : Addr) : Sp := fun vs H Q E => ∃ (o dx L M : Addr) (as : List Addr) (cs : List (List (Addr × Ow))) (hs : List Bool) (n : Int), vs = [.ref o, .int n] ∧ OwnAt C H o dx L M as cs hs ∧
  (inR n cs.length → Q .non H) ∧ (¬ inR n cs.length → ∀ H', Same H H' → E (.ref N) none H')
def spIsFree (C : Addr) : Sp := fun vs H Q _ => ∃ (o dx L M : Addr) (as : List Addr) (cs : List (List (Addr × Ow))) (hs : List Bool) (n : Nat), vs = [.ref o, .int (n : Nat)] ∧ OwnAt C H o dx L M as cs hs ∧ n < cs.length ∧ Q (.bl (freeB cs hs n)) H
def spFree (C : Addr) : Sp := fun vs H Q _ => ∃ (o dx L M : Addr) (as : List Addr) (cs : List (List (Addr × Ow))) (hs : List Bool), vs = [.ref o] ∧ OwnAt C H o dx L M as cs hs ∧
  ∀ H' p, Same H H' → H p = none → H' p = some (.lst (nInt (freeL cs hs))) → Q (.ref p) H'
def spHands (C : Addr) : Sp := fun vs H Q _ => ∃ (o dx L M : Addr) (as : List Addr) (cs : List (List (Addr × Ow))) (hs : List Bool), vs = [.ref o] ∧ OwnAt C H o dx L M as cs hs ∧
  ∀ H' p, Same H H' → H p = none → H' p = some (.lst (nInt (heldL hs))) → Q (.ref p) H'
def spTake (C : Addr) : Sp := fun vs H Q _ => ∃ (o dx L M : Addr) (as : List Addr) (cs : List (List (Addr × Ow))) (hs : List Bool), vs = [.ref o] ∧ OwnAt C H o dx L M as cs hs ∧
  ((freeL cs hs)[0]? = none → ∀ H', Same H H' → Q .non H') ∧ (∀ j, (freeL cs hs)[0]? = some j → ∀ H', Keep [M] H H' → KT H H' → OwnAt C H' o dx L M as cs (hs.set j true) → Q (.int (j : Nat)) H')
def spPlaceOf (K : PySem.W.Frag) (C : Addr) : Sp := fun vs H Q _ => ∃ (o dx L M : Addr) (as : List Addr) (cs : List (List (Addr × Ow))) (hs : List Bool) (t : Addr) (w : Ow), vs = [.ref o, .ref t] ∧ OwnAt C H o dx L M as cs hs ∧ H t = some (.tup (oV w)) ∧
  ∀ H', Same H H' → Q (natV (placeM cs w)) H'
def spOwnersOf (C N : Addr) : Sp := fun vs H Q E => ∃ (o dx L M : Addr) (as : List Addr) (cs : List (List (Addr × Ow))) (hs : List Bool) (n : Int), vs = [.ref o, .int n] ∧ OwnAt C H o dx L M as cs hs ∧
  (∀ j : Nat, n = (j : Int) → ∀ c, cs[j]? = some c → ∀ p, H p = none → Q (.ref p) (upd H p (.lst (c.map wV)))) ∧ (¬ inR n cs.length → ∀ H', Same H H' → E (.ref N) none H')
def spGive (C N : Addr) : Sp := fun vs H Q E => ∃ (o dx L M : Addr) (as : List Addr) (cs : List (List (Addr × Ow))) (hs : List Bool) (n : Int), vs = [.ref o, .int n] ∧ OwnAt C H o dx L M as cs hs ∧
  (∀ j : Nat, n = (j : Int) → hs[j]? = some true → ∀ H', Keep [M] H H' → KT H H' → OwnAt C H' o dx L M as cs (hs.set j false) → Q .non H') ∧
  ((∀ j : Nat, n = (j : Int) → hs[j]? ≠ some true) → ∀ H', Same H H' → E (.ref N) none H')
def spHold (C N : Addr) : Sp := fun vs H Q E => ∃ (o dx L M : Addr) (as : List Addr) (cs : List (List (Addr × Ow))) (hs : List Bool) (n : Int), vs = [.ref o, .int n] ∧ OwnAt C H o dx L M as cs hs ∧
  (∀ j : Nat, n = (j : Int) → freeB cs hs j = true → ∀ H', Keep [M] H H' → KT H H' → OwnAt C H' o dx L M as cs (hs.set j true) → Q .non H') ∧
  ((∀ j : Nat, n = (j : Int) → freeB cs hs j = false) → ∀ H', Same H H' → E (.ref N) none H')
def spAdd (K : PySem.W.Frag) (C N : Addr) : Sp := fun vs H Q E => ∃ (o dx L M : Addr) (as : List Addr) (cs : List (List (Addr × Ow))) (hs : List Bool) (n : Int) (t : Addr) (w : Ow), vs = [.ref o, .int n, .ref t] ∧ OwnAt C H o dx L M as cs hs ∧ H t = some (.tup (oV w)) ∧ (∀ c ∈ cs, c.length ≤ 900) ∧
  (∀ j : Nat, n = (j : Int) → ∀ c, cs[j]? = some c → freeB cs hs j = false → placeM cs w = none → ∀ H', Keep (M :: as) H H' → KT H H' → OwnAt C H' o dx L M as (cs.set j (c ++ [(t, w)])) (hs.set j false) → Q .non H') ∧
  ((∀ j : Nat, n = (j : Int) → j < cs.length → freeB cs hs j = true ∨ placeM cs w ≠ none) → ∀ H', Same H H' → E (.ref N) none H')
/-- where the owner stands -/
def atOw (w : Ow) (c : List (Addr × Ow)) : Option Nat := c.findIdx? fun z => decide (z.2 = w)
theorem map_eraseIdxO {α β : Type} (f : α → β) : ∀ (l : List α) (j : Nat), (l.map f).eraseIdx j = (l.eraseIdx j).map f
  | [], _ => rfl
  | _ :: _, 0 => rfl
  | x :: l, j + 1 => by
    show f x :: (l.map f).eraseIdx j = f x :: (l.eraseIdx j).map f
    rw [map_eraseIdxO f l j]
theorem at_ow {w : Ow} {c : List (Addr × Ow)} (h : w ∈ c.map Prod.snd) : ∃ i, atOw w c = some i := by
  unfold atOw
  cases e : c.findIdx? fun z => decide (z.2 = w) with
  | some i => exact ⟨i, rfl⟩
  | none =>
    rw [List.findIdx?_eq_none_iff] at e
    obtain ⟨z, hz, hw⟩ := List.mem_map.mp h
    have := e z hz
    simp [hw] at this
theorem at_ow_spec {w : Ow} {c : List (Addr × Ow)} {i : Nat} (h : atOw w c = some i) : ((c.map Prod.snd).map oD)[i]? = some (oD w) ∧
    (∀ (m : Nat) (z' : PyData), m < i → ((c.map Prod.snd).map oD)[m]? = some z' → PyData.eqv z' (oD w) = false) ∧ ∀ f : Addr × Ow → V, (c.map f).eraseIdx i = (c.eraseIdx i).map f := by
  unfold atOw at h
  rw [List.findIdx?_eq_some_iff_getElem] at h
  obtain ⟨hi, h1, h2⟩ := h
  refine ⟨?_, fun m z' hm hz => ?_, fun f => map_eraseIdxO f c i⟩
  · rw [List.getElem?_map, List.getElem?_map, List.getElem?_eq_getElem hi]
    simp [of_decide_eq_true h1]
  · have hm2 : m < c.length := by omega
    rw [List.getElem?_map, List.getElem?_map, List.getElem?_eq_getElem hm2] at hz
    have e := Option.some.inj hz
    rw [← e, eqv_oD]
    have := h2 m hm
    simpa using this
def spRemove (K : PySem.W.Frag) (C N : Addr) : Sp := fun vs H Q E => ∃ (o dx L M : Addr) (as : List Addr) (cs : List (List (Addr × Ow))) (hs : List Bool) (n : Int) (t : Addr) (w : Ow), vs = [.ref o, .int n, .ref t] ∧ OwnAt C H o dx L M as cs hs ∧ H t = some (.tup (oV w)) ∧
  (∀ j : Nat, n = (j : Int) → ∀ c, cs[j]? = some c → ∀ i, atOw w c = some i → ∀ H', Keep (M :: as) H H' → KT H H' → OwnAt C H' o dx L M as (cs.set j (c.eraseIdx i)) hs → Q .non H') ∧
  ((∀ j : Nat, n = (j : Int) → ∀ c, cs[j]? = some c → owns w c = false) → ∀ H', Same H H' → E (.ref N) none H')
structure HandAt (C : Addr) (H : Hp) (h dx : Addr) (many : Nat) (pl : Int) : Prop where
  ins : H h = some (.ins C dx [("_many", .int (many : Nat)), ("_frame", .int pl)])
def spHandInit (C : Addr) : Sp := fun vs H Q _ => ∃ (o dx : Addr) (many : Nat), vs = [.ref o, .int (many : Nat)] ∧ H o = some (.ins C dx []) ∧ ∀ H', SameBut o H H' → HandAt C H' o dx many 0 → Q .non H'
def spVictim (K : PySem.W.Frag) (Co C : Addr) : Sp := fun vs H Q _ => ∃ (h hx o dx L M r : Addr) (as : List Addr) (cs : List (List (Addr × Ow))) (hs : List Bool) (pl : Int) (ps : List Int), vs = [.ref h, .ref o, .ref r] ∧ OwnAt Co H o dx L M as cs hs ∧ HandAt C H h hx cs.length pl ∧
  SqL K H r (ps.map V.int) ∧ ps.length ≤ 1000 ∧ 0 ≤ pl ∧ (vicM cs ps pl cs.length = none → ∀ H', Same H H' → Q .non H') ∧
  (∀ j, vicM cs ps pl cs.length = some j → ∀ H', SameBut h H H' → HandAt C H' h hx cs.length (((j : Nat) + 1) % (cs.length : Int)) → Q (.int (j : Nat)) H')
def spPoints (C : Addr) : Sp := fun vs H Q _ => ∃ (h hx : Addr) (many : Nat) (pl : Int), vs = [.ref h] ∧ HandAt C H h hx many pl ∧ Q (.int pl) H
end Fk
/-! Memory: sizes, buffers, boxes, cells, log as they stand in the heap; what an access does. -/
namespace Mk
open PySem PySem.Spec PyProof.Rows L2 Dk Ek Nk Wk Lk Fk
theorem kit_of_sub {K : PySem.W.Frag} {C : Addr} {T : String} {v : Bool} (hm : PySem.W.kitMeta T = true) (h : PySem.W.subIn K (.ref C) (.type T) = some v) : PySem.W.kitOne K (.ref C) (.type T) = some v := by
  unfold PySem.W.kitOne
  rw [if_neg (by intro h; have := beq_iff_eq.mp h; cases this)]
  show (if PySem.W.kitMeta T = true then PySem.W.subIn K (.ref C) (.type T) else none) = some v
  rw [if_pos hm]
  exact h
/-! ### sizes -/
def spSz (C : Addr) (args : List Int) (val : Int → Int → Int → Int) : Addr → Addr → Int → Int → Int → List V → Hp → VK → Prop := fun z dx p f b vs H Q => vs = .ref z :: args.map V.int ∧ H z = some (.ins C dx (szF p f b)) ∧ Q (.int (val p f b)) H
def spLock (C : Addr) : Sp := fun vs H Q _ => ∃ (z dx : Addr) (p f b : Int), vs = [.ref z] ∧ H z = some (.ins C dx (szF p f b)) ∧ Q (.int 0) H
def spAck (C : Addr) : Sp := fun vs H Q _ => ∃ (z dx : Addr) (p f b i : Int), vs = [.ref z, .int i] ∧ H z = some (.ins C dx (szF p f b)) ∧ Q (.int (1 + i)) H
def spWordC (C : Addr) : Sp := fun vs H Q _ => ∃ (z dx : Addr) (p f b s g : Int), vs = [.ref z, .int s, .int g] ∧ H z = some (.ins C dx (szF p f b)) ∧ Q (.int (1 + p + 8 * s + g)) H
def spFrameC (C : Addr) : Sp := fun vs H Q _ => ∃ (z dx : Addr) (p f b s g : Int), vs = [.ref z, .int s, .int g] ∧ H z = some (.ins C dx (szF p f b)) ∧ -(2 ^ 64) < s ∧ s < 2 ^ 64 ∧ Q (.int (1 + p + 4 * 8 + 2 * s + g)) H
def spSwapC (C : Addr) : Sp := fun vs H Q _ => ∃ (z dx : Addr) (p f b i : Int), vs = [.ref z, .int i] ∧ H z = some (.ins C dx (szF p f b)) ∧ Q (.int (1 + p + 4 * 8 + 2 * f + i)) H
def spFileC (C : Addr) : Sp := fun vs H Q _ => ∃ (z dx : Addr) (p f b s g : Int), vs = [.ref z, .int s, .int g] ∧ H z = some (.ins C dx (szF p f b)) ∧ Q (.int (1 + p + 4 * 8 + 2 * f + b + 4 * s + g)) H
def cellsN (p f b : Int) : Int := 1 + p + 4 * 8 + 2 * f + b + 2 * 4
def spCells (C : Addr) : Sp := fun vs H Q _ => ∃ (z dx : Addr) (p f b : Int), vs = [.ref z] ∧ H z = some (.ins C dx (szF p f b)) ∧ Q (.int (cellsN p f b)) H
/-! ### first values -/
def firstD (p f b : Int) : List PyData := List.replicate (1 + p).toNat (.int 0) ++ List.replicate 32 .none ++ List.replicate (2 * f).toNat (.int 0) ++ List.replicate (b + 8).toNat (.tuple [.int 0, .int 0])
def firstV (p f b : Int) (t : Addr) : List V := List.replicate (1 + p).toNat (.int 0) ++ List.replicate 32 .non ++ List.replicate (2 * f).toNat (.int 0) ++ List.replicate (b + 8).toNat (.ref t)
def spFirst (C : Addr) : Sp := fun vs H Q _ => ∃ (z dx : Addr) (p f b : Int), vs = [.ref z] ∧ H z = some (.ins C dx (szF p f b)) ∧ okSz p f b = true ∧ ∀ H' t l, Same H H' → H l = none → H' t = some (.tup [.int 0, .int 0]) → H' l = some (.lst (firstV p f b t)) → Q (.ref l) H'
theorem dp_rep {K : PySem.W.Frag} {H : Hp} {v : V} {d : PyData} (h : Dp K H v d) : ∀ n, DpAll K H (List.replicate n v) (List.replicate n d)
  | 0 => .nil
  | n + 1 => .cons h (dp_rep h n)
theorem first_dp {K : PySem.W.Frag} {H : Hp} {t : Addr} (p f b : Int) (h : H t = some (.tup [.int 0, .int 0])) : DpAll K H (firstV p f b t) (firstD p f b) :=
  dpAll_app (dpAll_app (dpAll_app (dp_rep (.int 0) _) (dp_rep .non _)) (dp_rep (.int 0) _)) (dp_rep (.tup (SqT.of h) (.cons (.int 0) (.cons (.int 0) .nil))) _)
theorem first_len {p f b : Int} (h : okSz p f b = true) : ((firstD p f b).length : Int) = cellsN p f b := by
  simp only [okSz, Bool.and_eq_true, decide_eq_true_eq] at h
  simp only [firstD, List.length_append, List.length_replicate, cellsN]
  omega
theorem okSz_at {p f b : Int} (h : okSz p f b = true) : (1 ≤ p ∧ p ≤ 3) ∧ (2 ≤ f ∧ f ≤ 12) ∧ (0 ≤ b ∧ b ≤ 12) := by
  simp only [okSz, Bool.and_eq_true, decide_eq_true_eq] at h
  exact ⟨h.1.1, h.1.2, h.2⟩
/-! ### buffers -/
structure BufAt (C : Addr) (H : Hp) (b dx l : Addr) (vs : List V) : Prop where
  ins : H b = some (.ins C dx [("_entries", .ref l)])
  lst : H l = some (.lst vs)
theorem BufAt.same {C b dx l : Addr} {H H' : Hp} {vs : List V} (h : BufAt C H b dx l vs) (e : Same H H') : BufAt C H' b dx l vs := ⟨e _ _ h.ins, e _ _ h.lst⟩
def spBufInit (C : Addr) : Sp := fun vs H Q _ => ∃ (x dx : Addr), vs = [.ref x] ∧ H x = some (.ins C dx []) ∧ ∀ H' l, SameBut x H H' → H l = none → BufAt C H' x dx l [] → Q .non H'
def spEntries (C : Addr) : Sp := fun vs H Q _ => ∃ (b dx l : Addr) (zs : List V), vs = [.ref b] ∧ BufAt C H b dx l zs ∧ ∀ p, H p = none → Q (.ref p) (upd H p (.lst zs))
structure BoxAt (C : Addr) (H : Hp) (b dx l : Addr) (vs : List V) : Prop where
  ins : H b = some (.ins C dx [("_letters", .ref l)])
  lst : H l = some (.lst vs)
theorem BoxAt.same {C b dx l : Addr} {H H' : Hp} {vs : List V} (h : BoxAt C H b dx l vs) (e : Same H H') : BoxAt C H' b dx l vs := ⟨e _ _ h.ins, e _ _ h.lst⟩
def spBoxInit (C : Addr) : Sp := fun vs H Q _ => ∃ (x dx : Addr), vs = [.ref x] ∧ H x = some (.ins C dx []) ∧ ∀ H' l, SameBut x H H' → H l = none → BoxAt C H' x dx l [] → Q .non H'
def spLetters (C : Addr) : Sp := fun vs H Q _ => ∃ (b dx l : Addr) (zs : List V), vs = [.ref b] ∧ BoxAt C H b dx l zs ∧ ∀ p, H p = none → Q (.ref p) (upd H p (.lst zs))
/-! ### the memory -/
/-- what does not change of a memory -/
structure MX where
  (m dx z dz bl xl cl lg : Addr)
  (p f b : Int)
  (bs : List (Addr × Addr))
  (xs : List (Addr × Addr × Addr))
/-- what changes -/
structure MS where
  n : Nat
  cells : List PyData
  bufs : List (List En)
  boxes : List (List PyData)
  log : List PyData
structure Cl4 where
  (Cm Cs Cb Cx : Addr)
def Shs (ds : List PyData) : Prop := ∀ d ∈ ds, noL d = true ∧ Sh 20 d
structure MemAt (K : PySem.W.Frag) (C : Cl4) (H : Hp) (x : MX) (s : MS) : Prop where
  ins : H x.m = some (.ins C.Cm x.dx [("sizes", .ref x.z), ("count", .int (s.n : Nat)), ("buffers", .ref x.bl), ("boxes", .ref x.xl), ("_cells", .ref x.cl), ("_log", .ref x.lg)])
  sz : H x.z = some (.ins C.Cs x.dz (szF x.p x.f x.b))
  okS : okSz x.p x.f x.b = true
  bl : H x.bl = some (.lst (x.bs.map fun y => V.ref y.1))
  xl : H x.xl = some (.lst (x.xs.map fun y => V.ref y.1))
  cells : ∃ vs, H x.cl = some (.lst vs) ∧ DpAll K H vs s.cells
  log : ∃ vs, H x.lg = some (.lst vs) ∧ DpAll K H vs s.log
  buf : ∀ (i : Nat) (y : Addr × Addr) (es : List En), x.bs[i]? = some y → s.bufs[i]? = some es → ∃ l zs, BufAt C.Cb H y.1 y.2 l (zs.map aV) ∧ EnAll H zs ∧ zs.map Prod.snd = es ∧ l ∉ x.cl :: x.lg :: x.xs.map fun y => y.2.2
  box : ∀ (i : Nat) (y : Addr × Addr × Addr) (ls : List PyData), x.xs[i]? = some y → s.boxes[i]? = some ls → ∃ vs, BoxAt C.Cx H y.1 y.2.1 y.2.2 vs ∧ DpAll K H vs ls
  lenC : (s.cells.length : Int) = cellsN x.p x.f x.b
  lenB : (x.bs.length : Int) = x.p ∧ s.bufs.length = x.bs.length
  lenX : (x.xs.length : Int) = x.p ∧ s.boxes.length = x.xs.length
  lenL : s.log.length = s.n
  shC : Shs s.cells
  shL : Shs s.log
  shX : ∀ ls ∈ s.boxes, Shs ls
  lim : ∀ es ∈ s.bufs, es.length ≤ 2
  ndL : (x.bl :: x.xl :: x.cl :: x.lg :: x.xs.map fun y => y.2.2).Nodup
  ndB : (x.bs.map fun y => y.1).Nodup
  ndI : ∀ y ∈ x.bs, y.1 ≠ x.m
def MX.foot (x : MX) : List Addr := x.m :: x.cl :: x.lg :: ((x.bs.map fun y => y.1) ++ x.xs.map fun y => y.2.2)
theorem Shs.no {ds : List PyData} (h : Shs ds) : noLs ds = true := noLs_of fun d hd => (h d hd).1
theorem MemAt.same {K : PySem.W.Frag} {C : Cl4} {H H' : Hp} {x : MX} {s : MS} (h : MemAt K C H x s) (e : Same H H') : MemAt K C H' x s where
  ins := e _ _ h.ins
  sz := e _ _ h.sz
  okS := h.okS
  bl := e _ _ h.bl
  xl := e _ _ h.xl
  cells := by
    obtain ⟨vs, h1, h2⟩ := h.cells
    exact ⟨vs, e _ _ h1, dpAll_mono e h2⟩
  log := by
    obtain ⟨vs, h1, h2⟩ := h.log
    exact ⟨vs, e _ _ h1, dpAll_mono e h2⟩
  buf := fun i y es h1 h2 => by
    obtain ⟨l, zs, h3, h4, h5, h6⟩ := h.buf i y es h1 h2
    exact ⟨l, zs, h3.same e, h4.kt (KT.of e), h5, h6⟩
  box := fun i y ls h1 h2 => by
    obtain ⟨vs, h3, h4⟩ := h.box i y ls h1 h2
    exact ⟨vs, h3.same e, dpAll_mono e h4⟩
  lenC := h.lenC
  lenB := h.lenB
  lenX := h.lenX
  lenL := h.lenL
  shC := h.shC
  shL := h.shL
  shX := h.shX
  lim := h.lim
  ndL := h.ndL
  ndB := h.ndB
  ndI := h.ndI
theorem ins_ne {H : Hp} {a b C D dx ex : Addr} {n m : Str} {u v : V} {fs gs : List (Str × V)} (h : H a = some (.ins C dx ((n, u) :: fs))) (k : H b = some (.ins D ex ((m, v) :: gs))) (e : ¬ n = m) : a ≠ b := fun z => by
  rw [z, k] at h
  injection h with h
  injection h with _ _ h
  injection h with h _
  injection h with h _
  exact e h.symm
/-- what is written anew: the count, the cells, the log -/
theorem MemAt.re {K : PySem.W.Frag} {C : Cl4} {H H' : Hp} {x : MX} {s : MS} {n : Nat} {cells log : List PyData} (h : MemAt K C H x s) (kt : KT H H') (kp : Keep [x.m, x.cl, x.lg] H H')
    (hm : H' x.m = some (.ins C.Cm x.dx [("sizes", .ref x.z), ("count", .int (n : Nat)), ("buffers", .ref x.bl), ("boxes", .ref x.xl), ("_cells", .ref x.cl), ("_log", .ref x.lg)]))
    (hc : ∃ vs, H' x.cl = some (.lst vs) ∧ DpAll K H' vs cells) (hl : ∃ vs, H' x.lg = some (.lst vs) ∧ DpAll K H' vs log) (lc : cells.length = s.cells.length) (ll : log.length = n) (sc : Shs cells) (sl : Shs log) :
    MemAt K C H' x ⟨n, cells, s.bufs, s.boxes, log⟩ := by
  have nd := h.ndL
  simp only [List.nodup_cons, List.mem_cons, not_or] at nd
  obtain ⟨vc, hc0, _⟩ := h.cells
  obtain ⟨vl, hl0, _⟩ := h.log
  have insNe : ∀ {y D ex : Addr} {fs : List (Str × V)}, y ≠ x.m → H y = some (.ins D ex fs) → y ∉ [x.m, x.cl, x.lg] := fun nm hy z => by
    simp only [List.mem_cons, List.not_mem_nil, or_false] at z
    rcases z with z | z | z
    · exact nm z
    · exact ne_of hy hc0 (fun q => nomatch q) z
    · exact ne_of hy hl0 (fun q => nomatch q) z
  have lstNe : ∀ {y : Addr} {vs : List V}, y ≠ x.cl → y ≠ x.lg → H y = some (.lst vs) → y ∉ [x.m, x.cl, x.lg] := fun n1 n2 hy z => by
    simp only [List.mem_cons, List.not_mem_nil, or_false] at z
    rcases z with z | z | z
    · exact ne_of hy h.ins (fun q => nomatch q) z
    · exact n1 z
    · exact n2 z
  have zm : x.z ≠ x.m := ins_ne h.sz h.ins (by decide +kernel)
  exact {
    ins := hm
    sz := kp _ _ (insNe zm h.sz) h.sz
    okS := h.okS
    bl := kp _ _ (lstNe nd.1.2.1 nd.1.2.2.1 h.bl) h.bl
    xl := kp _ _ (lstNe nd.2.1.1 nd.2.1.2.1 h.xl) h.xl
    cells := hc
    log := hl
    buf := fun i y es h1 h2 => by
      obtain ⟨l, zs, h3, h4, h5, h6⟩ := h.buf i y es h1 h2
      have h7 := h6
      simp only [List.mem_cons, not_or] at h7
      exact ⟨l, zs, ⟨kp _ _ (insNe (h.ndI y (mem_of_get h1)) h3.ins) h3.ins, kp _ _ (lstNe h7.1 h7.2.1 h3.lst) h3.lst⟩, h4.kt kt, h5, h6⟩
    box := fun i y ls h1 h2 => by
      obtain ⟨vs, h3, h4⟩ := h.box i y ls h1 h2
      have hy : y.2.2 ∈ x.xs.map fun y => y.2.2 := List.mem_map.mpr ⟨y, mem_of_get h1, rfl⟩
      exact ⟨vs, ⟨kp _ _ (insNe (ins_ne h3.ins h.ins (by decide +kernel)) h3.ins) h3.ins, kp _ _ (lstNe (fun z => nd.2.2.1.2 (z ▸ hy)) (fun z => nd.2.2.2.1 (z ▸ hy)) h3.lst) h3.lst⟩, dpAll_keep kt (h.shX ls (mem_of_get h2)).no h4⟩
    lenC := by rw [show (MS.mk n cells s.bufs s.boxes log).cells.length = s.cells.length from lc]; exact h.lenC
    lenB := h.lenB
    lenX := h.lenX
    lenL := ll
    shC := sc
    shL := sl
    shX := h.shX
    lim := h.lim
    ndL := h.ndL
    ndB := h.ndB
    ndI := h.ndI }
def initS (p f b : Int) : MS := ⟨0, firstD p f b, List.replicate p.toNat [], List.replicate p.toNat [], []⟩
def spMemInit (K : PySem.W.Frag) (C : Cl4) : Sp := fun vs H Q _ => ∃ (m dx z dz : Addr) (p f b : Int), vs = [.ref m, .ref z] ∧ H m = some (.ins C.Cm dx []) ∧ H z = some (.ins C.Cs dz (szF p f b)) ∧ okSz p f b = true ∧
  ∀ H' x, x.m = m → x.dx = dx → x.z = z → x.dz = dz → x.p = p → x.f = f → x.b = b → SameBut m H H' → (∀ a ∈ x.bl :: x.xl :: x.cl :: x.lg :: ((x.bs.map fun y => y.1) ++ x.xs.map fun y => y.2.2), H a = none) → MemAt K C H' x (initS p f b) → Q .non H'
def spPeek (K : PySem.W.Frag) (C : Cl4) (N : Addr) : Sp := fun vs H Q E => ∃ (x : MX) (s : MS) (c : Int), vs = [.ref x.m, .int c] ∧ MemAt K C H x s ∧
  (∀ j : Nat, c = (j : Int) → ∀ v d, s.cells[j]? = some d → Dp K H v d → Q v H) ∧ (¬ (0 ≤ c ∧ c < cellsN x.p x.f x.b) → ∀ H', Same H H' → E (.ref N) none H')
def spLog (K : PySem.W.Frag) (C : Cl4) : Sp := fun vs H Q _ => ∃ (x : MX) (s : MS), vs = [.ref x.m] ∧ MemAt K C H x s ∧ ∀ vs p, H p = none → DpAll K H vs s.log → Q (.ref p) (upd H p (.lst vs))
end Mk
/-! match over a tuple whose first part is a text: case ("name", a, b, ..). -/
namespace Mc
open PySem PySem.Spec PyProof.Rows L2
abbrev TC := Str → List V → TS
section
variable {X : Cx}
structure PCs (X : Cx) (cs : List MatchCase) (t : TC) : Prop where
  run : ∀ (pins : List (Addr × Obj)) (s : Shared) (σ : L2.St) (H : Hp) (D : Ends) (a : Addr) (z : Str) (xs : List V) (first : Bool), Inv X pins σ H s → SqT X.K H a (.str z :: xs) → t z xs D σ H →
    wpAny (model X.prog X.w) X.A (matchCases cs X.env (.ref a) first) (SP X pins D) X.xe s
def setAll : L2.St → List Nat → List V → L2.St
  | σ, i :: is, v :: vs => setAll (σ.set i (some v)) is vs
  | σ, _, _ => σ
/-- the captures of a case, by their slots -/
inductive Caps (X : Cx) : List Pattern → List Nat → List Str → Prop where
  | nil : Caps X [] [] []
  | cons {n : Str} {i : Nat} {pos : Pos} {ps : List Pattern} {is : List Nat} {ns : List Str} (hi : X.N[i]? = some n) (hx : Loc X.env.scope n) (r : Caps X ps is ns)
      (hf : X.fn n = true ∨ X.env.scope.names.lookup n = some .local := by first | exact .inl rfl | exact .inr rfl | assumption) : Caps X (.MatchAs none (some n) pos :: ps) (i :: is) (n :: ns)
theorem Caps.len {ps : List Pattern} {is : List Nat} {ns : List Str} (c : Caps X ps is ns) : ps.length = is.length ∧ ns.length = is.length := by
  induction c with
  | nil => exact ⟨rfl, rfl⟩
  | cons _ _ _ _ ih => exact ⟨congrArg (· + 1) ih.1, congrArg (· + 1) ih.2⟩
theorem caps_match {M : Model} {A : Around} {E : Value → Shared → Prop} {ps : List Pattern} {is : List Nat} {ns : List Str} (c : Caps X ps is ns) : ∀ {us : List Value} {s : Shared} {Q : Option (List (Str × Value)) → Shared → Prop}, us.length = is.length → Q (some (ns.zip us)) s → wpAny M A (matchEach ps X.env us) Q E s := by
  induction c with
  | nil =>
    intro us s Q hl h
    exact wpAny_matchEach_nil h
  | @cons n i pos ps is ns hi hx r hf ih =>
    intro us s Q hl h
    cases us with
    | nil => cases hl
    | cons u us =>
      refine wpAny_matchEach_cons (wpAny_matchPattern_Capture ?_)
      exact ih (Nat.succ.inj hl) h
theorem caps_assign {ps : List Pattern} {is : List Nat} {ns : List Str} (c : Caps X ps is ns) (hN : X.N.Nodup) : ∀ {us : List Value} {vs : List V} {pins : List (Addr × Obj)} {σ : L2.St} {H : Hp} {s : Shared} {Q : Unit → Shared → Prop}, us.length = is.length → Vals vs us → Inv X pins σ H s →
    (∀ s', Inv X pins (setAll σ is vs) H s' → Q () s') → wpAny (model X.prog X.w) X.A (assignInOrder ((ns.zip us).map fun (n, _) => bindName X.env n) ((ns.zip us).map (·.2))) Q X.xe s := by
  induction c with
  | nil =>
    intro us vs pins σ H s Q hl r I h
    exact wpAny_assignInOrder_none (h s (by cases us with | nil => (cases r; exact I) | cons _ _ => cases hl))
  | @cons n i pos ps is ns hi hx r hf ih =>
    intro us vs pins σ H s Q hl rv I h
    cases us with
    | nil => cases hl
    | cons u us =>
      cases rv with
      | @cons v _ vs _ r1 r2 =>
        refine wpAny_assignInOrder_more (wpAny_bindName (store_ok I hN hi hx r1 (fun s1 I1 => ?_) hf))
        exact ih (Nat.succ.inj hl) r2 I1 h
theorem pc_nil : PCs X [] (fun _ _ D σ H => D.nx σ H) := ⟨fun pins s σ H D a z xs first I _ h => wpAny_matchCases_nil ⟨σ, H, I, h⟩⟩
def tCase (nm : Str) (is : List Nat) (tb : TS) (tr : TC) : TC := fun z xs D σ H =>
  ((z == nm) = true ∧ xs.length = is.length → tb D (setAll σ is xs) H) ∧ (¬ ((z == nm) = true ∧ xs.length = is.length) → tr z xs D σ H)
theorem pc_cons {nm : Str} {j : Nat} {p1 p2 p3 : Pos} {caps : List Pattern} {is : List Nat} {ns : List Str} {body : List Stmt} {rest : List MatchCase} {tb : TS} {tr : TC} (hc : X.calm = true) (hN : X.N.Nodup) (c : Caps X caps is ns) (hb : PSs X body tb) (hr : PCs X rest tr)
    (hstar : (Pattern.MatchValue (.Constant (.str nm) j p1) p2 :: caps).findIdx? (·.isStar) = none := by rfl)
    (hwild : ((Pattern.MatchValue (.Constant (.str nm) j p1) p2 :: caps).all fun p => p.isWildcard || (p.isStar && p.names.isEmpty)) = false := by rfl) :
    PCs X (⟨.MatchSequence (.MatchValue (.Constant (.str nm) j p1) p2 :: caps) p3, none, body⟩ :: rest) (tCase nm is tb tr) := by
  refine ⟨fun pins s σ H D a z xs first I hq h => ?_⟩
  obtain ⟨its, rv, ht, hz⟩ := I.tuple hq
  have hsl := sizeLine_eq
  cases rv with
  | @cons _ u _ us ru rus =>
    have hlx : xs.length = us.length := rus.length
    have hfit : ((u :: us).toArray.size : Int) < 2 ^ 63 := by
      simp only [List.length_cons] at hz
      simp only [List.size_toArray, List.length_cons]
      omega
    by_cases hl : xs.length = is.length
    · have hn : (u :: us).toArray.size = (Pattern.MatchValue (.Constant (.str nm) j p1) p2 :: caps).length := by
        simp only [List.size_toArray, List.length_cons]
        have := c.len.1
        omega
      refine wpAny_matchCases_cons (matchSeq_tuple_hit ht hfit hn ?_ hstar hwild)
      have hn2 : (Pattern.MatchValue (.Constant (.str nm) j p1) p2 :: caps).length = (u :: us).toArray.size := hn.symm
      rw [hn2]
      have I0 : Inv X pins σ H { s with toks := s.toks + 1 + 1 } := I.tok _
      refine unpackItems_tuple (I.ok.hd hc) ht fun h' hx => ?_
      have I1 : Inv X pins σ H { s with heap := h', toks := s.toks + 1 + 1 } := I0.kept (t' := s.toks + 1 + 1) fun b o e => hx b o (Nat.ne_of_lt (Heap.lt_size e)) e
      show wpAny _ _ (matchEach (_ :: _) X.env (u :: us)) _ _ _
      refine wpAny_matchEach_cons (wpAny_matchPattern_Value ?_)
      refine thn ((pe_str (X := X) (x := nm) (j := j) (pos := p1)).run pins _ σ H (fun v H' => v = .str nm ∧ H' = H) I1 ⟨rfl, rfl⟩) fun w s1 ⟨v, H', I2, rw_, hv, hH⟩ => ?_
      subst hv hH
      refine thn (op_eq (X := X) pins s1 σ H' (.str z) (.str nm) u w (fun v H'' => v = .bl (decide (V.str z = V.str nm)) ∧ H'' = H') I2 ru rw_ ⟨rfl, rfl, rfl⟩) fun cv s2 ⟨v, H'', I3, rc, hv, hH⟩ => ?_
      subst hv hH
      cases (show cv = Value.bool (decide (V.str z = V.str nm)) from rc)
      refine wpAny_truthy_bool ?_
      have ed : decide (V.str z = V.str nm) = (z == nm) := by
        rw [Bool.eq_iff_iff]
        simp
      by_cases hzn : (z == nm) = true
      · rw [ed, hzn]
        refine caps_match c (by omega) ?_
        show wpAny _ _ (assignInOrder ((([] : List (Str × Value)) ++ ns.zip us).map fun (n, _) => bindName X.env n) ((([] : List (Str × Value)) ++ ns.zip us).map (·.2))) _ _ _
        rw [List.nil_append]
        exact caps_assign c hN (by omega) rus I3 fun s3 I4 => hb.run pins s3 _ H'' D I4 (h.1 ⟨hzn, hl⟩)
      · rw [ed, Bool.eq_false_iff.mpr hzn]
        exact hr.run pins s2 σ H'' D a z xs false I3 hq (h.2 fun k => hzn k.1)
    · have hn : (u :: us).toArray.size ≠ (Pattern.MatchValue (.Constant (.str nm) j p1) p2 :: caps).length := by
        simp only [List.size_toArray, List.length_cons]
        have := c.len.1
        omega
      refine wpAny_matchCases_cons (matchSeq_tuple_miss ht hfit hn ?_ hstar hwild)
      exact hr.run pins _ σ H D a z xs false (I.tok _) hq (h.2 fun k => hl k.2)
def tMatch (K : PySem.W.Frag) (te : TE) (tc : TC) : TS := fun D σ H => te σ H fun x H1 => ∃ (a : Addr) (z : Str) (xs : List V), x = .ref a ∧ SqT K H1 a (.str z :: xs) ∧ tc z xs D σ H1
theorem ps_match {e : Expr} {cs : List MatchCase} {pos : Pos} {te : TE} {tc : TC} (he : PE X e te) (hc : PCs X cs tc) : PS X (.Match e cs pos) (tMatch X.K te tc) := by
  refine ⟨fun pins s σ H D I h => wpAny_Match (thn (he.run pins s σ H _ I h) fun u s1 ⟨x, H1, I1, rx, a, z, xs, ex, hq, q⟩ => ?_)⟩
  subst ex
  obtain rfl : u = Value.ref a := rx
  exact hc.run pins s1 σ H1 D a z xs true I1 hq q
end
end Mc
/-! d.get(e), d a dict of the module with texts as keys. -/
namespace Pk
open PySem PySem.Spec PyProof.Rows L2
def IsKD (K : PySem.W.Frag) (w : World) (a : Addr) : Prop := ∃ es n, K.lookup a = some ⟨.type "dict", none, .dict es n, #[]⟩ ∧ PySem.W.KeysLit w.params es.toList ∧ (a == sysModules) = false
def tKGet1 (K : PySem.W.Frag) (w : World) (td ty : TE) : TE := fun σ H Q => td σ H fun x H1 => ∃ a, x = .ref a ∧ IsKD K w a ∧ ty σ H1 fun y H2 => ∃ z, y = .str z ∧
  ((∃ u v, PySem.W.nsIn K a z = some (some u) ∧ RelV v u ∧ Q v H2) ∨ (PySem.W.nsIn K a z = some none ∧ Q .non H2))
section
variable {X : Cx} {o e : Expr} {apos cpos : Pos} {td ty : TE}
theorem pe_kget1 (ho : PE X o td) (he : PE X e ty) (m : M1 X o "get" apos e cpos) : PE X (.Call (.Attribute o "get" apos) [e] [] cpos) (tKGet1 X.K X.w td ty) := by
  refine ⟨fun pins s σ H Q I h => ?_⟩
  refine wpAny_Call_method m.base m.few m.line PySem.F.plainAttrs_dict PySem.F.slot_dict_get PySem.F.type_dict_get (thn (ho.run pins s σ H _ I h) fun u s1 ⟨x, H1, I1, rx, a, ex, d, q1⟩ => ?_)
  subst ex
  obtain rfl : u = Value.ref a := rx
  obtain ⟨es, n, hl, hk, hd⟩ := d
  have hm1 := PySem.W.mapOf_K (prog := X.prog) (w := X.w) I1.kIn hl hk
  refine ⟨hm1.typeIs, fun b q => ?_, ?_⟩
  · cases q
    exact ⟨_, I1.kIn _ _ hl, rfl⟩
  rw [m.trees]
  refine Calls.callWith_builtin rfl (Calls.evalArgs_plain (Calls.spliced_cons (thn (he.run pins s1 σ H1 _ I1 q1) fun iv s2 ⟨y, H2, I2, ry, z, ey, q2⟩ => Calls.spliced_nil ?_)))
  subst ey
  obtain ⟨t, rfl⟩ := (show ∃ t, iv = Value.str z t from ry)
  have hm := PySem.W.mapOf_K (prog := X.prog) (w := X.w) I2.kIn hl hk
  refine call_meetsIn PySem.F.slot_dict_get hm.typeIs PySem.F.entry_dict_get (PySem.F.args_dict_get_2 _ _) (meets_dict_get (strKind X.prog X.w) a (strKind_is X.prog X.w z t) hd) ⟨_, hm, ?_⟩
  rcases q2 with ⟨u0, v, e1, ru, q⟩ | ⟨e1, q⟩
  · have hf := PySem.W.find_K hl e1
    rw [hf]
    exact ⟨v, H2, I2.tok _, ru, q⟩
  · have hf := PySem.W.find_K hl e1
    rw [hf]
    exact ⟨.non, H2, I2.tok _, rfl, q⟩
end
/-! ### the module's table of requests -/
def partsOf (z : Str) : Option (List Str) :=
  if z = "read" then some [("cell" : Str)] else if z = "write" then some [("cell" : Str), ("value" : Str)] else if z = "swap" then some [("cell" : Str), ("value" : Str), ("value" : Str)] else if z = "send" then some [("processor" : Str), ("letter" : Str)] else if z = "take" then some [] else if z = "walk" then some [("space" : Str), ("page" : Str)] else if z = "load" then some [("space" : Str), ("page" : Str), ("index" : Str)] else if z = "store" then some [("space" : Str), ("page" : Str), ("index" : Str), ("value" : Str)] else if z = "change" then some [("space" : Str), ("page" : Str), ("index" : Str), ("value" : Str), ("value" : Str)] else none
structure PartsAt (w : World) (K : PySem.W.Frag) (mg : Str → Option Value) : Prop where
  ex : ∃ p, mg "PARTS" = some (.ref p) ∧ IsKD K w p ∧ ∀ z : Str, (∃ ks t, partsOf z = some ks ∧ PySem.W.nsIn K p z = some (some (.ref t)) ∧ ∀ H, SqT K H t (ks.map V.str)) ∨ (partsOf z = none ∧ PySem.W.nsIn K p z = some none)
theorem ns_dict {K : PySem.W.Frag} {p : Addr} {es : List DictEntry} {n : Nat} (h : K.lookup p = some ⟨.type "dict", none, .dict es.toArray n, #[]⟩) (z : Str) :
    PySem.W.nsIn K p z = (match es.find? (·.key.isStr z) with | some e => some (some e.val) | none => if es.any (·.refKey) then none else some none) := by
  unfold PySem.W.nsIn
  rw [h]
  rfl
theorem isStr_ne {x z : Str} {k : Tok} (h : ¬ z = x) : (Value.str x k).isStr z = false := by
  rw [PySem.W.isStr_of]
  show (x == z) = false
  exact beq_eq_false_iff_ne.mpr fun e => h e.symm
theorem isStr_eq {x : Str} {k : Tok} : (Value.str x k).isStr x = true := by
  rw [PySem.W.isStr_of]
  show (x == x) = true
  exact beq_self_eq_true x
theorem parts_mk {w : World} {K : PySem.W.Frag} {mg : Str → Option Value} {pP : Addr} {nP : Nat} {t0 t1 t2 t3 t4 t5 t6 t7 t8 : Addr} {m0 m1 m2 m3 m4 m5 m6 m7 m8 : Nat} {k0 k1 k2 k3 k4 k5 k6 k7 k8 j00 j10 j11 j20 j21 j22 j30 j31 j50 j51 j60 j61 j62 j70 j71 j72 j73 j80 j81 j82 j83 j84 : Tok}
    (hg : mg "PARTS" = some (.ref pP)) (hs : (pP == sysModules) = false) (hl : K.lookup pP = some ⟨.type "dict", none, .dict #[⟨PyData.keyHash w.params "read", .str "read" k0, .ref t0⟩, ⟨PyData.keyHash w.params "write", .str "write" k1, .ref t1⟩, ⟨PyData.keyHash w.params "swap", .str "swap" k2, .ref t2⟩, ⟨PyData.keyHash w.params "send", .str "send" k3, .ref t3⟩, ⟨PyData.keyHash w.params "take", .str "take" k4, .ref t4⟩, ⟨PyData.keyHash w.params "walk", .str "walk" k5, .ref t5⟩, ⟨PyData.keyHash w.params "load", .str "load" k6, .ref t6⟩, ⟨PyData.keyHash w.params "store", .str "store" k7, .ref t7⟩, ⟨PyData.keyHash w.params "change", .str "change" k8, .ref t8⟩] nP, #[]⟩)
    (h0 : K.lookup t0 = some ⟨.type "tuple", none, .seq #[.str "cell" j00] m0, #[]⟩) (h1 : K.lookup t1 = some ⟨.type "tuple", none, .seq #[.str "cell" j10, .str "value" j11] m1, #[]⟩) (h2 : K.lookup t2 = some ⟨.type "tuple", none, .seq #[.str "cell" j20, .str "value" j21, .str "value" j22] m2, #[]⟩) (h3 : K.lookup t3 = some ⟨.type "tuple", none, .seq #[.str "processor" j30, .str "letter" j31] m3, #[]⟩) (h4 : K.lookup t4 = some ⟨.type "tuple", none, .seq #[] m4, #[]⟩) (h5 : K.lookup t5 = some ⟨.type "tuple", none, .seq #[.str "space" j50, .str "page" j51] m5, #[]⟩) (h6 : K.lookup t6 = some ⟨.type "tuple", none, .seq #[.str "space" j60, .str "page" j61, .str "index" j62] m6, #[]⟩) (h7 : K.lookup t7 = some ⟨.type "tuple", none, .seq #[.str "space" j70, .str "page" j71, .str "index" j72, .str "value" j73] m7, #[]⟩) (h8 : K.lookup t8 = some ⟨.type "tuple", none, .seq #[.str "space" j80, .str "page" j81, .str "index" j82, .str "value" j83, .str "value" j84] m8, #[]⟩) : PartsAt w K mg := by
  refine ⟨pP, hg, ⟨_, _, hl, ?_, hs⟩, fun z => ?_⟩
  · exact ⟨⟨_, _, rfl, rfl⟩, ⟨⟨_, _, rfl, rfl⟩, ⟨⟨_, _, rfl, rfl⟩, ⟨⟨_, _, rfl, rfl⟩, ⟨⟨_, _, rfl, rfl⟩, ⟨⟨_, _, rfl, rfl⟩, ⟨⟨_, _, rfl, rfl⟩, ⟨⟨_, _, rfl, rfl⟩, ⟨⟨_, _, rfl, rfl⟩, True.intro⟩⟩⟩⟩⟩⟩⟩⟩⟩
  · have hn := ns_dict (es := [⟨PyData.keyHash w.params "read", .str "read" k0, .ref t0⟩, ⟨PyData.keyHash w.params "write", .str "write" k1, .ref t1⟩, ⟨PyData.keyHash w.params "swap", .str "swap" k2, .ref t2⟩, ⟨PyData.keyHash w.params "send", .str "send" k3, .ref t3⟩, ⟨PyData.keyHash w.params "take", .str "take" k4, .ref t4⟩, ⟨PyData.keyHash w.params "walk", .str "walk" k5, .ref t5⟩, ⟨PyData.keyHash w.params "load", .str "load" k6, .ref t6⟩, ⟨PyData.keyHash w.params "store", .str "store" k7, .ref t7⟩, ⟨PyData.keyHash w.params "change", .str "change" k8, .ref t8⟩]) hl z
    by_cases c0 : z = "read"
    · subst c0
      refine .inl ⟨[("cell" : Str)], t0, by decide +kernel, ?_, fun H => .inr ⟨_, _, _, h0, rfl, rfl, by show 1 ≤ sizeLine; decide, .cons ⟨_, rfl⟩ (.nil)⟩⟩
      rw [hn]
      rfl
    by_cases c1 : z = "write"
    · subst c1
      refine .inl ⟨[("cell" : Str), ("value" : Str)], t1, by decide +kernel, ?_, fun H => .inr ⟨_, _, _, h1, rfl, rfl, by show 2 ≤ sizeLine; decide, .cons ⟨_, rfl⟩ (.cons ⟨_, rfl⟩ (.nil))⟩⟩
      rw [hn]
      rfl
    by_cases c2 : z = "swap"
    · subst c2
      refine .inl ⟨[("cell" : Str), ("value" : Str), ("value" : Str)], t2, by decide +kernel, ?_, fun H => .inr ⟨_, _, _, h2, rfl, rfl, by show 3 ≤ sizeLine; decide, .cons ⟨_, rfl⟩ (.cons ⟨_, rfl⟩ (.cons ⟨_, rfl⟩ (.nil)))⟩⟩
      rw [hn]
      rfl
    by_cases c3 : z = "send"
    · subst c3
      refine .inl ⟨[("processor" : Str), ("letter" : Str)], t3, by decide +kernel, ?_, fun H => .inr ⟨_, _, _, h3, rfl, rfl, by show 2 ≤ sizeLine; decide, .cons ⟨_, rfl⟩ (.cons ⟨_, rfl⟩ (.nil))⟩⟩
      rw [hn]
      rfl
    by_cases c4 : z = "take"
    · subst c4
      refine .inl ⟨[], t4, by decide +kernel, ?_, fun H => .inr ⟨_, _, _, h4, rfl, rfl, by show 0 ≤ sizeLine; decide, .nil⟩⟩
      rw [hn]
      rfl
    by_cases c5 : z = "walk"
    · subst c5
      refine .inl ⟨[("space" : Str), ("page" : Str)], t5, by decide +kernel, ?_, fun H => .inr ⟨_, _, _, h5, rfl, rfl, by show 2 ≤ sizeLine; decide, .cons ⟨_, rfl⟩ (.cons ⟨_, rfl⟩ (.nil))⟩⟩
      rw [hn]
      rfl
    by_cases c6 : z = "load"
    · subst c6
      refine .inl ⟨[("space" : Str), ("page" : Str), ("index" : Str)], t6, by decide +kernel, ?_, fun H => .inr ⟨_, _, _, h6, rfl, rfl, by show 3 ≤ sizeLine; decide, .cons ⟨_, rfl⟩ (.cons ⟨_, rfl⟩ (.cons ⟨_, rfl⟩ (.nil)))⟩⟩
      rw [hn]
      rfl
    by_cases c7 : z = "store"
    · subst c7
      refine .inl ⟨[("space" : Str), ("page" : Str), ("index" : Str), ("value" : Str)], t7, by decide +kernel, ?_, fun H => .inr ⟨_, _, _, h7, rfl, rfl, by show 4 ≤ sizeLine; decide, .cons ⟨_, rfl⟩ (.cons ⟨_, rfl⟩ (.cons ⟨_, rfl⟩ (.cons ⟨_, rfl⟩ (.nil))))⟩⟩
      rw [hn]
      rfl
    by_cases c8 : z = "change"
    · subst c8
      refine .inl ⟨[("space" : Str), ("page" : Str), ("index" : Str), ("value" : Str), ("value" : Str)], t8, by decide +kernel, ?_, fun H => .inr ⟨_, _, _, h8, rfl, rfl, by show 5 ≤ sizeLine; decide, .cons ⟨_, rfl⟩ (.cons ⟨_, rfl⟩ (.cons ⟨_, rfl⟩ (.cons ⟨_, rfl⟩ (.cons ⟨_, rfl⟩ (.nil)))))⟩⟩
      rw [hn]
      rfl
    refine .inr ⟨?_, ?_⟩
    · unfold partsOf
      rw [if_neg c0, if_neg c1, if_neg c2, if_neg c3, if_neg c4, if_neg c5, if_neg c6, if_neg c7, if_neg c8]
    · rw [hn]
      simp only [List.find?_cons, isStr_ne c0, isStr_ne c1, isStr_ne c2, isStr_ne c3, isStr_ne c4, isStr_ne c5, isStr_ne c6, isStr_ne c7, isStr_ne c8, List.find?_nil]
      rfl
end Pk
/-! Accesses: which values are requests, and what reading, writing and swapping do. -/
namespace Ak
open PySem PySem.Spec PyProof.Rows L2 Dk Ek Nk Wk Lk Fk Mk Pk
def pairD : PyData → Bool
  | .tuple [a, b] => belowD a 4 && belowD b 8
  | _ => false
def posD : PyData → Bool
  | .int i => !decide (i < 1)
  | _ => false
def manyD : PyData → Bool
  | .tuple ps => !decide ((ps.length : Int) = 0) && ps.all pairD
  | _ => false
def letterD : PyData → Bool
  | .tuple [t, p] => posD t && manyD p
  | _ => false
theorem pair_no {d : PyData} (h : tupD d 2 = false) : pairD d = false := by
  unfold pairD
  split
  · simp [tupD] at h
  · rfl
theorem letter_no {d : PyData} (h : tupD d 2 = false) : letterD d = false := by
  unfold letterD
  split
  · simp [tupD] at h
  · rfl
def FewD (d : PyData) : Prop := ∀ t ps, d = .tuple [t, .tuple ps] → ps.length ≤ 1000
def spPair (K : PySem.W.Frag) : Sp := fun vs H Q _ => ∃ (v : V) (d : PyData), vs = [v] ∧ Dp K H v d ∧ Q (.bl (pairD d)) H
def spLetter (K : PySem.W.Frag) : Sp := fun vs H Q _ => ∃ (v : V) (d : PyData), vs = [v] ∧ Dp K H v d ∧ FewD d ∧ ∀ H', Same H H' → Q (.bl (letterD d)) H'
/-! ### parts of requests -/
def valueD : PyData → Bool
  | .none => true
  | .int _ => true
  | .tuple _ => true
  | _ => false
def boundK (k : Str) (p f b : Int) : Int := if k = "cell" then cellsN p f b else if k = "processor" then p else if k = "space" then 4 else if k = "page" then 8 else 2
def partD (d : PyData) (k : Str) (p f b : Int) : Bool := if k = "value" then valueD d else if k = "letter" then letterD d else belowD d (boundK k p f b)
def reqL (z : Str) (r : List PyData) (p f b : Int) : Bool := match partsOf z with
  | none => false
  | some ks => decide (r.length = ks.length) && (r.zip ks).all fun y => partD y.1 y.2 p f b
def reqD (d : PyData) (p f b : Int) : Bool := match d with
  | .tuple (.str z :: r) => reqL z r p f b
  | _ => false
structure FewR (d : PyData) : Prop where
  wide : ∀ ds, d = .tuple ds → ds.length ≤ 100
  deep : ∀ ds, d = .tuple ds → ∀ x ∈ ds, FewD x
def spValue (K : PySem.W.Frag) : Sp := fun vs H Q _ => ∃ (v : V) (d : PyData), vs = [v] ∧ Dp K H v d ∧ Q (.bl (valueD d)) H
def spBound (C : Addr) : Sp := fun vs H Q _ => ∃ (k : Str) (z dx : Addr) (p f b : Int), vs = [.str k, .ref z] ∧ H z = some (.ins C dx (szF p f b)) ∧ Q (.int (boundK k p f b)) H
def spPart (K : PySem.W.Frag) (C : Addr) : Sp := fun vs H Q _ => ∃ (v : V) (d : PyData) (k : Str) (z dx : Addr) (p f b : Int), vs = [v, .str k, .ref z] ∧ Dp K H v d ∧ FewD d ∧ H z = some (.ins C dx (szF p f b)) ∧ ∀ H', Same H H' → Q (.bl (partD d k p f b)) H'
def spIsReq (K : PySem.W.Frag) (C : Addr) : Sp := fun vs H Q _ => ∃ (v : V) (d : PyData) (z dx : Addr) (p f b : Int), vs = [v, .ref z] ∧ Dp K H v d ∧ FewR d ∧ H z = some (.ins C dx (szF p f b)) ∧ ∀ H', Same H H' → Q (.bl (reqD d p f b)) H'
/-! ### reading, writing, swapping -/
inductive Rw where
  | read (c : Int)
  | write (c : Int) (d : PyData)
  | swap (c : Int) (o n : PyData)
def rwD : Rw → PyData
  | .read c => .tuple [.str "read", .int c]
  | .write c d => .tuple [.str "write", .int c, d]
  | .swap c o n => .tuple [.str "swap", .int c, o, n]
def cellAt (cells : List PyData) (c : Int) : PyData := cells[c.toNat]?.getD .none
def rwCells (cells : List PyData) : Rw → List PyData
  | .read _ => cells
  | .write c d => cells.set c.toNat d
  | .swap c o n => if PyData.eqv (cellAt cells c) o = true then cells.set c.toNat n else cells
def rwVal (cells : List PyData) : Rw → PyData
  | .read c => cellAt cells c
  | .write _ _ => .none
  | .swap c o _ => .bool (PyData.eqv (cellAt cells c) o)
def logD (n p : Int) (d : PyData) : PyData := .tuple [.int n, .int p, d]
def rwNext (s : MS) (p : Int) (r : Rw) : MS := ⟨s.n + 1, rwCells s.cells r, s.bufs, s.boxes, s.log ++ [logD ((s.n + 1 : Nat)) p (rwD r)]⟩
def RwOk (s : MS) : Rw → Prop
  | .read c => 0 ≤ c ∧ c < (s.cells.length : Int)
  | .write c d => (0 ≤ c ∧ c < (s.cells.length : Int)) ∧ noL d = true ∧ Sh 20 d
  | .swap c o n => (0 ≤ c ∧ c < (s.cells.length : Int)) ∧ Sh 20 o ∧ noL n = true ∧ Sh 20 n
theorem rwCells_len (cells : List PyData) (r : Rw) : (rwCells cells r).length = cells.length := by
  cases r with
  | read c => rfl
  | write c d => exact List.length_set
  | swap c o n =>
    show (if PyData.eqv (cellAt cells c) o = true then cells.set c.toNat n else cells).length = _
    split
    · exact List.length_set
    · rfl
theorem shs_set {ds : List PyData} (h : Shs ds) {d : PyData} (n : noL d = true) (s : Sh 20 d) (i : Nat) : Shs (ds.set i d) := fun x hx => by
  rcases List.mem_or_eq_of_mem_set hx with hx | rfl
  · exact h x hx
  · exact ⟨n, s⟩
theorem rw_shs {s : MS} {r : Rw} (h : Shs s.cells) (k : RwOk s r) : Shs (rwCells s.cells r) := by
  cases r with
  | read c => exact h
  | write c d => exact shs_set h k.2.1 k.2.2 _
  | swap c o n =>
    show Shs (if PyData.eqv (cellAt s.cells c) o = true then s.cells.set c.toNat n else s.cells)
    split
    · exact shs_set h k.2.2.1 k.2.2.2 _
    · exact h
/-- behind the count and the log -/
def spRes (K : PySem.W.Frag) (C : Cl4) : Sp := fun vs H Q _ => ∃ (x : MX) (s : MS) (p : Int) (t : Addr) (r : Rw), vs = [.ref x.m, .int p, .ref t] ∧ MemAt K C H x s ∧ Dp K H (.ref t) (rwD r) ∧ RwOk s r ∧
  ∀ H' v, Keep [x.m, x.cl, x.lg] H H' → KT H H' → MemAt K C H' x ⟨s.n, rwCells s.cells r, s.bufs, s.boxes, s.log⟩ → Dp K H' v (rwVal s.cells r) → Q v H'
def spSwapM (K : PySem.W.Frag) (C : Cl4) : Sp := fun vs H Q _ => ∃ (x : MX) (s : MS) (c : Int) (vo vn : V) (o n : PyData), vs = [.ref x.m, .int c, vo, vn] ∧ MemAt K C H x s ∧ Dp K H vo o ∧ Dp K H vn n ∧ RwOk s (.swap c o n) ∧
  ∀ H', Keep [x.m, x.cl, x.lg] H H' → KT H H' → MemAt K C H' x ⟨s.n, rwCells s.cells (.swap c o n), s.bufs, s.boxes, s.log⟩ → Q (.bl (PyData.eqv (cellAt s.cells c) o)) H'
def spAccess (K : PySem.W.Frag) (C : Cl4) (N : Addr) : Sp := fun vs H Q E => ∃ (x : MX) (s : MS) (p : Int) (y : V) (d : PyData), vs = [.ref x.m, .int p, y] ∧ MemAt K C H x s ∧ Dp K H y d ∧ FewR d ∧ noL d = true ∧ Sh 15 d ∧ s.n ≤ 100000 ∧
  (reqD d x.p x.f x.b = true → ∃ r, d = rwD r) ∧
  (∀ r, d = rwD r → reqD d x.p x.f x.b = true → (0 ≤ p ∧ p < x.p) → ∀ H' v t, Keep [x.m, x.cl, x.lg] H H' → KT H H' → MemAt K C H' x (rwNext s p r) → H' t = some (.tup [v, .int ((s.n + 1 : Nat))]) → Dp K H' v (rwVal s.cells r) → Q (.ref t) H') ∧
  ((reqD d x.p x.f x.b = false ∨ ¬ (0 ≤ p ∧ p < x.p)) → ∀ H', Same H H' → E (.ref N) none H')
theorem dpAll_set {K : PySem.W.Frag} {H : Hp} {v : V} {d : PyData} (h : Dp K H v d) : ∀ {xs : List V} {ds : List PyData} (i : Nat), DpAll K H xs ds → DpAll K H (xs.set i v) (ds.set i d)
  | _, _, _, .nil => .nil
  | _, _, 0, .cons _ b => .cons h b
  | _, _, i + 1, .cons a b => .cons a (dpAll_set h i b)
theorem set_cells {K : PySem.W.Frag} {C : Cl4} {H : Hp} {x : MX} {s : MS} {vs : List V} {j : Nat} {v : V} {n : PyData} (hM : MemAt K C H x s) (hc : H x.cl = some (.lst vs)) (hd : DpAll K H vs s.cells) (hn : Dp K H v n) (nn : noL n = true) (sn : Sh 20 n) :
    MemAt K C (upd H x.cl (.lst (vs.set j v))) x ⟨s.n, s.cells.set j n, s.bufs, s.boxes, s.log⟩ := by
  have nd := hM.ndL
  simp only [List.nodup_cons, List.mem_cons, not_or] at nd
  have kt : KT H (upd H x.cl (.lst (vs.set j v))) := KT.lst hc
  obtain ⟨vl, hl, hld⟩ := hM.log
  refine hM.re kt (Keep.put (by simp)) ((upd_ne (ne_of hM.ins hc (fun z => nomatch z))).trans hM.ins) ⟨_, upd_same, dpAll_set (dp_keep kt nn hn) j (dpAll_keep kt hM.shC.no hd)⟩ ⟨vl, (upd_ne (Ne.symm nd.2.2.1.1)).trans hl, dpAll_keep kt hM.shL.no hld⟩ List.length_set hM.lenL (shs_set hM.shC nn sn j) hM.shL
theorem parts_at (z : Str) : partsOf "read" = some (["cell"] : List Str) ∧ partsOf "write" = some (["cell", "value"] : List Str) ∧ partsOf "swap" = some (["cell", "value", "value"] : List Str) := ⟨by decide +kernel, by decide +kernel, by decide +kernel⟩
theorem below_at {c n : Int} (h : belowD (.int c) n = true) : 0 ≤ c ∧ c < n := by
  simp only [belowD, Bool.and_eq_true, decide_eq_true_eq] at h
  exact h
theorem req_ok {s : MS} {r : Rw} {p f b : Int} (hl : (s.cells.length : Int) = cellsN p f b) (e : reqD (rwD r) p f b = true) (n : noL (rwD r) = true) (sh : Sh 20 (rwD r)) : RwOk s r := by
  obtain ⟨p1, p2, p3⟩ := parts_at ""
  have cK : boundK "cell" p f b = cellsN p f b := by unfold boundK; rw [if_pos rfl]
  have c1 : ∀ d, partD d "cell" p f b = belowD d (cellsN p f b) := fun d => by
    unfold partD
    rw [if_neg (by decide +kernel), if_neg (by decide +kernel), cK]
  cases r with
  | read c =>
    have e2 : reqL "read" [.int c] p f b = true := e
    unfold reqL at e2
    rw [p1] at e2
    simp only [List.length_cons, List.length_nil, List.zip_cons_cons, List.zip_nil_left, List.all_cons, List.all_nil, c1, Bool.and_true, Bool.and_eq_true] at e2
    have := below_at e2.2
    exact ⟨this.1, by omega⟩
  | write c d =>
    have e2 : reqL "write" [.int c, d] p f b = true := e
    unfold reqL at e2
    rw [p2] at e2
    simp only [List.length_cons, List.length_nil, List.zip_cons_cons, List.zip_nil_left, List.all_cons, List.all_nil, c1, Bool.and_true, Bool.and_eq_true] at e2
    have := below_at e2.2.1
    refine ⟨⟨this.1, by omega⟩, ?_, Sh.elem sh (by simp)⟩
    simp only [rwD, noL, noLs, Bool.and_eq_true] at n
    exact n.2.2.1
  | swap c o m =>
    have e2 : reqL "swap" [.int c, o, m] p f b = true := e
    unfold reqL at e2
    rw [p3] at e2
    simp only [List.length_cons, List.length_nil, List.zip_cons_cons, List.zip_nil_left, List.all_cons, List.all_nil, c1, Bool.and_true, Bool.and_eq_true] at e2
    have := below_at e2.2.1
    refine ⟨⟨this.1, by omega⟩, Sh.elem sh (by simp), ?_, Sh.elem sh (by simp)⟩
    simp only [rwD, noL, noLs, Bool.and_eq_true] at n
    exact n.2.2.2.1
/-! ### a list of the law's own, apart from the memory -/
structure Off (H : Hp) (x : MX) (q : Addr) : Prop where
  fix : q ∉ x.bl :: x.xl :: x.cl :: x.lg :: x.xs.map fun y => y.2.2
  ent : ∀ y ∈ x.bs, ∀ (D e l : Addr), H y.1 = some (.ins D e [("_entries", .ref l)]) → l ≠ q
theorem buf_of {K : PySem.W.Frag} {C : Cl4} {H : Hp} {x : MX} {s : MS} (h : MemAt K C H x s) {y : Addr × Addr} (hy : y ∈ x.bs) : ∃ l zs, BufAt C.Cb H y.1 y.2 l zs := by
  obtain ⟨i, hi, e⟩ := List.mem_iff_getElem.mp hy
  have hb := h.lenB.2
  obtain ⟨l, zs, h1, _⟩ := h.buf i y _ (by rw [List.getElem?_eq_getElem hi, e]) (List.getElem?_eq_getElem (by omega : i < s.bufs.length))
  exact ⟨l, _, h1⟩
theorem box_of {K : PySem.W.Frag} {C : Cl4} {H : Hp} {x : MX} {s : MS} (h : MemAt K C H x s) {y : Addr × Addr × Addr} (hy : y ∈ x.xs) : ∃ vs, BoxAt C.Cx H y.1 y.2.1 y.2.2 vs := by
  obtain ⟨i, hi, e⟩ := List.mem_iff_getElem.mp hy
  have hb := h.lenX.2
  obtain ⟨vs, h1, _⟩ := h.box i y _ (by rw [List.getElem?_eq_getElem hi, e]) (List.getElem?_eq_getElem (by omega : i < s.boxes.length))
  exact ⟨vs, h1⟩
theorem Off.fresh {K : PySem.W.Frag} {C : Cl4} {H : Hp} {x : MX} {s : MS} {q : Addr} (h : MemAt K C H x s) (hq : H q = none) : Off H x q := by
  obtain ⟨_, hc, _⟩ := h.cells
  obtain ⟨_, hl, _⟩ := h.log
  refine ⟨fun z => ?_, fun y hy D e l hl z => ?_⟩
  · rcases List.mem_cons.mp z with e | z
    · rw [e, h.bl] at hq; cases hq
    rcases List.mem_cons.mp z with e | z
    · rw [e, h.xl] at hq; cases hq
    rcases List.mem_cons.mp z with e | z
    · rw [e, hc] at hq; cases hq
    rcases List.mem_cons.mp z with e | z
    · rw [e, hl] at hq; cases hq
    · obtain ⟨y, hy, e⟩ := List.mem_map.mp z
      obtain ⟨_, h1⟩ := box_of h hy
      have := h1.lst
      rw [e, hq] at this
      cases this
  · obtain ⟨l2, _, h1⟩ := buf_of h hy
    have h2 := h1.ins
    rw [hl] at h2
    injection h2 with h2
    injection h2 with _ _ h2
    injection h2 with h2 _
    injection h2 with _ h2
    injection h2 with h2
    have h3 := h1.lst
    rw [← h2, z, hq] at h3
    cases h3
/-- the buffers stand as they stood -/
theorem Off.mv {K : PySem.W.Frag} {C : Cl4} {H H' : Hp} {x : MX} {s : MS} {q : Addr} (o : Off H x q) (h : MemAt K C H x s) (e : ∀ y ∈ x.bs, ∀ u, H y.1 = some u → H' y.1 = some u) : Off H' x q := by
  refine ⟨o.fix, fun y hy D ex l hl => ?_⟩
  obtain ⟨l2, _, h1⟩ := buf_of h hy
  have h2 := e y hy _ h1.ins
  rw [hl] at h2
  have h3 := h1.ins
  rw [← h2] at h3
  exact o.ent y hy D ex l h3
theorem bufs_off {K : PySem.W.Frag} {C : Cl4} {H : Hp} {x : MX} {s : MS} (h : MemAt K C H x s) : ∀ y ∈ x.bs, y.1 ∉ [x.m, x.cl, x.lg] := fun y hy z => by
  obtain ⟨l2, _, h1⟩ := buf_of h hy
  obtain ⟨_, hc, _⟩ := h.cells
  obtain ⟨_, hl, _⟩ := h.log
  simp only [List.mem_cons, List.not_mem_nil, or_false] at z
  rcases z with z | z | z
  · exact h.ndI y hy z
  · exact ne_of h1.ins hc (fun q => nomatch q) z
  · exact ne_of h1.ins hl (fun q => nomatch q) z
theorem Off.same {K : PySem.W.Frag} {C : Cl4} {H H' : Hp} {x : MX} {s : MS} {q : Addr} (o : Off H x q) (h : MemAt K C H x s) (e : Same H H') : Off H' x q := o.mv h fun _ _ u hu => e _ _ hu
theorem Off.keep {K : PySem.W.Frag} {C : Cl4} {H H' : Hp} {x : MX} {s : MS} {q : Addr} (o : Off H x q) (h : MemAt K C H x s) (e : Keep [x.m, x.cl, x.lg] H H') : Off H' x q := o.mv h fun y hy u hu => e _ _ (bufs_off h y hy) hu
theorem Off.put {K : PySem.W.Frag} {C : Cl4} {H : Hp} {x : MX} {s : MS} {q r : Addr} {vs : List V} {u : HO} (o : Off H x q) (h : MemAt K C H x s) (hr : H r = some (.lst vs)) : Off (upd H r u) x q := o.mv h fun y hy w hw => by
  obtain ⟨l2, _, h1⟩ := buf_of h hy
  rw [upd_ne (ne_of h1.ins hr (fun q => nomatch q))]
  exact hw
/-- a list of one's own is written -/
theorem MemAt.aside {K : PySem.W.Frag} {C : Cl4} {H : Hp} {x : MX} {s : MS} {q : Addr} {vs : List V} {ws : List V} (h : MemAt K C H x s) (hq : H q = some (.lst vs)) (o : Off H x q) : MemAt K C (upd H q (.lst ws)) x s := by
  have kt : KT H (upd H q (.lst ws)) := KT.lst hq
  have fx := o.fix
  simp only [List.mem_cons, not_or] at fx
  have ne : ∀ {y D e : Addr} {fs : List (Str × V)}, H y = some (.ins D e fs) → y ≠ q := fun hy => ne_of hy hq (fun z => nomatch z)
  exact {
    ins := (upd_ne (ne h.ins)).trans h.ins
    sz := (upd_ne (ne h.sz)).trans h.sz
    okS := h.okS
    bl := (upd_ne (Ne.symm fx.1)).trans h.bl
    xl := (upd_ne (Ne.symm fx.2.1)).trans h.xl
    cells := by
      obtain ⟨v, h1, h2⟩ := h.cells
      exact ⟨v, (upd_ne (Ne.symm fx.2.2.1)).trans h1, dpAll_keep kt h.shC.no h2⟩
    log := by
      obtain ⟨v, h1, h2⟩ := h.log
      exact ⟨v, (upd_ne (Ne.symm fx.2.2.2.1)).trans h1, dpAll_keep kt h.shL.no h2⟩
    buf := fun i y es h1 h2 => by
      obtain ⟨l, zs, h3, h4, h5, h6⟩ := h.buf i y es h1 h2
      exact ⟨l, zs, ⟨(upd_ne (ne h3.ins)).trans h3.ins, (upd_ne (o.ent y (mem_of_get h1) _ _ l h3.ins)).trans h3.lst⟩, h4.kt kt, h5, h6⟩
    box := fun i y ls h1 h2 => by
      obtain ⟨v, h3, h4⟩ := h.box i y ls h1 h2
      have hy : y.2.2 ∈ x.xs.map fun y => y.2.2 := List.mem_map.mpr ⟨y, mem_of_get h1, rfl⟩
      exact ⟨v, ⟨(upd_ne (ne h3.ins)).trans h3.ins, (upd_ne (fun z : y.2.2 = q => fx.2.2.2.2 (by rw [← z]; exact hy))).trans h3.lst⟩, dpAll_keep kt (h.shX ls (mem_of_get h2)).no h4⟩
    lenC := h.lenC
    lenB := h.lenB
    lenX := h.lenX
    lenL := h.lenL
    shC := h.shC
    shL := h.shL
    shX := h.shX
    lim := h.lim
    ndL := h.ndL
    ndB := h.ndB
    ndI := h.ndI }
/-! ### the law's values -/
structure Cok (d : PyData) : Prop where
  no : noL d = true
  sh : Sh 2 d
  val : valueD d = true
  few : FewD d
def RwGood (n : Int) : Rw → Prop
  | .read c => 0 ≤ c ∧ c < n
  | .write c d => (0 ≤ c ∧ c < n) ∧ Cok d
  | .swap c o m => (0 ≤ c ∧ c < n) ∧ Cok o ∧ Cok m
theorem rw_req {r : Rw} {p f b : Int} (h : RwGood (cellsN p f b) r) : reqD (rwD r) p f b = true ∧ noL (rwD r) = true ∧ Sh 15 (rwD r) ∧ FewR (rwD r) := by
  obtain ⟨p1, p2, p3⟩ := parts_at ""
  have cK : boundK "cell" p f b = cellsN p f b := by unfold boundK; rw [if_pos rfl]
  have c1 : ∀ d, partD d "cell" p f b = belowD d (cellsN p f b) := fun d => by
    unfold partD
    rw [if_neg (by decide +kernel), if_neg (by decide +kernel), cK]
  have v1 : ∀ d, partD d "value" p f b = valueD d := fun d => by
    unfold partD
    rw [if_pos rfl]
  have bl : ∀ {c : Int}, 0 ≤ c ∧ c < cellsN p f b → belowD (.int c) (cellsN p f b) = true := fun {c} k => by simp only [belowD, decide_eq_true k.1, decide_eq_true k.2, Bool.and_self]
  have sR : Sh 0 (.str "read") := sh_str _ (by decide +kernel)
  have sW : Sh 0 (.str "write") := sh_str _ (by decide +kernel)
  have sS : Sh 0 (.str "swap") := sh_str _ (by decide +kernel)
  have fs : ∀ z : Str, FewD (.str z) := fun z t ps e => by cases e
  have fi : ∀ z : Int, FewD (.int z) := fun z t ps e => by cases e
  cases r with
  | read c =>
    refine ⟨?_, rfl, (sh_tup (n := 2) (sh_c (sR.up (by decide)) (sh_c ((sh_int _).up (by decide)) sh_n))).up (by decide), ⟨fun ds e => ?_, fun ds e x hx => ?_⟩⟩
    · show reqL "read" [.int c] p f b = true
      unfold reqL
      rw [p1]
      simp only [List.length_cons, List.length_nil, List.zip_cons_cons, List.zip_nil_left, List.all_cons, List.all_nil, c1, bl h]
      rfl
    · cases e
      show _ ≤ 100
      simp
    · cases e
      simp only [List.mem_cons, List.not_mem_nil, or_false] at hx
      rcases hx with rfl | rfl
      · exact fs _
      · exact fi _
  | write c d =>
    refine ⟨?_, by simp only [rwD, noL, noLs, h.2.no, Bool.and_self], (sh_tup (n := 2) (sh_c (sW.up (by decide)) (sh_c ((sh_int _).up (by decide)) (sh_c h.2.sh sh_n)))).up (by decide), ⟨fun ds e => ?_, fun ds e x hx => ?_⟩⟩
    · show reqL "write" [.int c, d] p f b = true
      unfold reqL
      rw [p2]
      simp only [List.length_cons, List.length_nil, List.zip_cons_cons, List.zip_nil_left, List.all_cons, List.all_nil, c1, v1, bl h.1, h.2.val]
      rfl
    · cases e
      show _ ≤ 100
      simp
    · cases e
      simp only [List.mem_cons, List.not_mem_nil, or_false] at hx
      rcases hx with rfl | rfl | rfl
      · exact fs _
      · exact fi _
      · exact h.2.few
  | swap c o m =>
    refine ⟨?_, by simp only [rwD, noL, noLs, h.2.1.no, h.2.2.no, Bool.and_self], (sh_tup (n := 2) (sh_c (sS.up (by decide)) (sh_c ((sh_int _).up (by decide)) (sh_c h.2.1.sh (sh_c h.2.2.sh sh_n))))).up (by decide), ⟨fun ds e => ?_, fun ds e x hx => ?_⟩⟩
    · show reqL "swap" [.int c, o, m] p f b = true
      unfold reqL
      rw [p3]
      simp only [List.length_cons, List.length_nil, List.zip_cons_cons, List.zip_nil_left, List.all_cons, List.all_nil, c1, v1, bl h.1, h.2.1.val, h.2.2.val]
      rfl
    · cases e
      show _ ≤ 100
      simp
    · cases e
      simp only [List.mem_cons, List.not_mem_nil, or_false] at hx
      rcases hx with rfl | rfl | rfl | rfl
      · exact fs _
      · exact fi _
      · exact h.2.1.few
      · exact h.2.2.few
def Coks (ds : List PyData) : Prop := ∀ d ∈ ds, Cok d
theorem coks_set {ds : List PyData} (h : Coks ds) {d : PyData} (k : Cok d) (i : Nat) : Coks (ds.set i d) := fun x hx => by
  rcases List.mem_or_eq_of_mem_set hx with hx | rfl
  · exact h x hx
  · exact k
theorem rw_coks {ds : List PyData} {n : Int} {r : Rw} (h : Coks ds) (k : RwGood n r) : Coks (rwCells ds r) := by
  cases r with
  | read c => exact h
  | write c d => exact coks_set h k.2 _
  | swap c o m =>
    show Coks (if PyData.eqv (cellAt ds c) o = true then ds.set c.toNat m else ds)
    split
    · exact coks_set h k.2.2 _
    · exact h
theorem rw_val {ds : List PyData} {n : Int} {r : Rw} (h : Coks ds) (k : RwGood n r) (hn : n ≤ (ds.length : Int)) : Sh 20 (rwVal ds r) := by
  cases r with
  | read c =>
    have hj : c.toNat < ds.length := by have := k.1; have := k.2; omega
    show Sh 20 (ds[c.toNat]?.getD .none)
    rw [List.getElem?_eq_getElem hj]
    exact (h _ (List.getElem_mem hj)).sh.up (by decide)
  | write c d => exact sh_none.up (by decide)
  | swap c o m => exact (sh_bool _).up (by decide)
end Ak
/-! Stacks of machines: a call of one of two classes; an own instance beside the memory is written. -/
namespace Sk
open PySem PySem.Spec PyProof.Rows L2 Dk Ek Nk Wk Lk Fk Mk Ak
theorem pe_alt {X : Cx} {e : Expr} {ta tb : TE} (ha : PE X e ta) (hb : PE X e tb) : PE X e (fun σ H Q => ta σ H Q ∨ tb σ H Q) :=
  ⟨fun pins s σ H Q I h => h.elim (ha.run pins s σ H Q I) (hb.run pins s σ H Q I)⟩
/-- an instance of the kernel's own is written -/
theorem MemAt.asideI {K : PySem.W.Frag} {C : Cl4} {H : Hp} {x : MX} {s : MS} {q D e : Addr} {nm : Str} {v : V} {fs : List (Str × V)} {u : HO} (h : MemAt K C H x s) (hq : H q = some (.ins D e ((nm, v) :: fs)))
    (hn : nm ≠ "sizes" ∧ nm ≠ "processors" ∧ nm ≠ "_entries" ∧ nm ≠ "_letters") : MemAt K C (upd H q u) x s := by
  have kt : KT H (upd H q u) := KT.ins hq
  have nl : ∀ {y : Addr} {xs : List V}, H y = some (.lst xs) → y ≠ q := fun hy => ne_of hy hq (fun z => nomatch z)
  have ni : ∀ {y E g : Addr} {m : Str} {w : V} {gs : List (Str × V)}, H y = some (.ins E g ((m, w) :: gs)) → nm ≠ m → y ≠ q := fun hy n z => by
    rw [z, hq] at hy
    injection hy with hy
    injection hy with _ _ hy
    injection hy with hy _
    injection hy with hy _
    exact n hy
  exact {
    ins := (upd_ne (ni h.ins hn.1)).trans h.ins
    sz := (upd_ne (ni h.sz hn.2.1)).trans h.sz
    okS := h.okS
    bl := (upd_ne (nl h.bl)).trans h.bl
    xl := (upd_ne (nl h.xl)).trans h.xl
    cells := by
      obtain ⟨v, h1, h2⟩ := h.cells
      exact ⟨v, (upd_ne (nl h1)).trans h1, dpAll_keep kt h.shC.no h2⟩
    log := by
      obtain ⟨v, h1, h2⟩ := h.log
      exact ⟨v, (upd_ne (nl h1)).trans h1, dpAll_keep kt h.shL.no h2⟩
    buf := fun i y es h1 h2 => by
      obtain ⟨l, zs, h3, h4, h5, h6⟩ := h.buf i y es h1 h2
      exact ⟨l, zs, ⟨(upd_ne (ni h3.ins hn.2.2.1)).trans h3.ins, (upd_ne (nl h3.lst)).trans h3.lst⟩, h4.kt kt, h5, h6⟩
    box := fun i y ls h1 h2 => by
      obtain ⟨v, h3, h4⟩ := h.box i y ls h1 h2
      exact ⟨v, ⟨(upd_ne (ni h3.ins hn.2.2.2)).trans h3.ins, (upd_ne (nl h3.lst)).trans h3.lst⟩, dpAll_keep kt (h.shX ls (mem_of_get h2)).no h4⟩
    lenC := h.lenC
    lenB := h.lenB
    lenX := h.lenX
    lenL := h.lenL
    shC := h.shC
    shL := h.shL
    shX := h.shX
    lim := h.lim
    ndL := h.ndL
    ndB := h.ndB
    ndI := h.ndI }
theorem Off.putI {K : PySem.W.Frag} {C : Cl4} {H : Hp} {x : MX} {s : MS} {p q D e : Addr} {nm : Str} {v : V} {fs : List (Str × V)} {u : HO} (o : Off H x p) (h : MemAt K C H x s) (hq : H q = some (.ins D e ((nm, v) :: fs)))
    (hn : nm ≠ "_entries") : Off (upd H q u) x p := Ak.Off.mv o h fun y hy w hw => by
  obtain ⟨l2, _, h1⟩ := buf_of h hy
  have : y.1 ≠ q := fun z => by
    have h2 := h1.ins
    rw [z, hq] at h2
    injection h2 with h2
    injection h2 with _ _ h2
    injection h2 with h2 _
    injection h2 with h2 _
    exact hn h2
  rw [upd_ne this]
  exact hw
/-- an address beside the memory -/
def Apart (H : Hp) (x : MX) (c : Addr) : Prop := (∃ (D e : Addr) (nm : Str) (v : V) (fs : List (Str × V)), H c = some (.ins D e ((nm, v) :: fs)) ∧ nm ≠ "sizes" ∧ nm ≠ "processors" ∧ nm ≠ "_entries" ∧ nm ≠ "_letters") ∨ ((∃ vs, H c = some (.lst vs)) ∧ Off H x c)
theorem Apart.ni {H : Hp} {x : MX} {c E g : Addr} {m : Str} {w : V} {gs : List (Str × V)} (a : Apart H x c) (hy : H c = some (.ins E g ((m, w) :: gs))) (hm : m = "sizes" ∨ m = "processors" ∨ m = "_entries" ∨ m = "_letters") : False := by
  rcases a with ⟨D, e, nm, v, fs, hc, n1, n2, n3, n4⟩ | ⟨⟨vs, hc⟩, _⟩
  · rw [hc] at hy
    injection hy with hy
    injection hy with _ _ hy
    injection hy with hy _
    injection hy with hy _
    subst hy
    rcases hm with h | h | h | h
    · exact n1 h
    · exact n2 h
    · exact n3 h
    · exact n4 h
  · rw [hc] at hy
    cases hy
theorem Apart.off {H : Hp} {x : MX} {c : Addr} {vs : List V} (a : Apart H x c) (hy : H c = some (.lst vs)) : Off H x c := by
  rcases a with ⟨D, e, nm, v, fs, hc, _⟩ | ⟨_, o⟩
  · rw [hc] at hy
    cases hy
  · exact o
theorem MemAt.apart {K : PySem.W.Frag} {C : Cl4} {H H' : Hp} {x : MX} {s : MS} {L : List Addr} (h : MemAt K C H x s) (kt : KT H H') (kp : Keep L H H') (ap : ∀ c ∈ L, Apart H x c) : MemAt K C H' x s := by
  have ni : ∀ {y E g : Addr} {m : Str} {w : V} {gs : List (Str × V)}, H y = some (.ins E g ((m, w) :: gs)) → (m = "sizes" ∨ m = "processors" ∨ m = "_entries" ∨ m = "_letters") → H' y = some (.ins E g ((m, w) :: gs)) := fun hy n => kp _ _ (fun z => (ap _ z).ni hy n) hy
  have nl : ∀ {y : Addr} {xs : List V}, H y = some (.lst xs) → (Off H x y → False) → H' y = some (.lst xs) := fun hy n => kp _ _ (fun z => n ((ap _ z).off hy)) hy
  have fx : ∀ {y : Addr}, y ∈ x.bl :: x.xl :: x.cl :: x.lg :: (x.xs.map fun y => y.2.2) → Off H x y → False := fun hy o => o.fix hy
  exact {
    ins := ni h.ins (.inl rfl)
    sz := ni h.sz (.inr (.inl rfl))
    okS := h.okS
    bl := nl h.bl (fx (by simp))
    xl := nl h.xl (fx (by simp))
    cells := by
      obtain ⟨v, h1, h2⟩ := h.cells
      exact ⟨v, nl h1 (fx (by simp)), dpAll_keep kt h.shC.no h2⟩
    log := by
      obtain ⟨v, h1, h2⟩ := h.log
      exact ⟨v, nl h1 (fx (by simp)), dpAll_keep kt h.shL.no h2⟩
    buf := fun i y es h1 h2 => by
      obtain ⟨l, zs, h3, h4, h5, h6⟩ := h.buf i y es h1 h2
      exact ⟨l, zs, ⟨ni h3.ins (.inr (.inr (.inl rfl))), nl h3.lst fun o => o.ent y (mem_of_get h1) _ _ l h3.ins rfl⟩, h4.kt kt, h5, h6⟩
    box := fun i y ls h1 h2 => by
      obtain ⟨v, h3, h4⟩ := h.box i y ls h1 h2
      have hy : y.2.2 ∈ x.xs.map fun y => y.2.2 := List.mem_map.mpr ⟨y, mem_of_get h1, rfl⟩
      exact ⟨v, ⟨ni h3.ins (.inr (.inr (.inr rfl))), nl h3.lst (fx (by simp only [List.mem_cons]; exact .inr (.inr (.inr (.inr hy)))))⟩, dpAll_keep kt (h.shX ls (mem_of_get h2)).no h4⟩
    lenC := h.lenC
    lenB := h.lenB
    lenX := h.lenX
    lenL := h.lenL
    shC := h.shC
    shL := h.shL
    shX := h.shX
    lim := h.lim
    ndL := h.ndL
    ndB := h.ndB
    ndI := h.ndI }
theorem Off.apart {K : PySem.W.Frag} {C : Cl4} {H H' : Hp} {x : MX} {s : MS} {q : Addr} {L : List Addr} (o : Off H x q) (h : MemAt K C H x s) (kp : Keep L H H') (ap : ∀ c ∈ L, Apart H x c) : Off H' x q :=
  Ak.Off.mv o h fun y hy w hw => kp _ _ (fun z => by
    obtain ⟨l2, _, h1⟩ := buf_of h hy
    exact (ap _ z).ni h1.ins (.inr (.inr (.inl rfl)))) hw
theorem cok_int (z : Int) : Cok (.int z) := ⟨rfl, (sh_int _).up (by decide), rfl, fun t ps e => by cases e⟩
/-- what an access leaves as it was -/
theorem keepI {K : PySem.W.Frag} {C : Cl4} {H : Hp} {x : MX} {s : MS} {q D e : Addr} {nm : Str} {v : V} {fs : List (Str × V)} (h : MemAt K C H x s) (hq : H q = some (.ins D e ((nm, v) :: fs))) (hn : nm ≠ "sizes") : q ∉ [x.m, x.cl, x.lg] := fun z => by
  obtain ⟨_, hc, _⟩ := h.cells
  obtain ⟨_, hl, _⟩ := h.log
  simp only [List.mem_cons, List.not_mem_nil, or_false] at z
  rcases z with z | z | z
  · have h1 := h.ins
    rw [← z, hq] at h1
    injection h1 with h1
    injection h1 with _ _ h1
    injection h1 with h1 _
    injection h1 with h1 _
    exact hn h1
  · exact ne_of hq hc (fun y => nomatch y) z
  · exact ne_of hq hl (fun y => nomatch y) z
theorem keepL {K : PySem.W.Frag} {C : Cl4} {H : Hp} {x : MX} {s : MS} {q : Addr} {vs : List V} (h : MemAt K C H x s) (hq : H q = some (.lst vs)) (o : Off H x q) : q ∉ [x.m, x.cl, x.lg] := fun z => by
  have fx := o.fix
  simp only [List.mem_cons, not_or] at fx
  simp only [List.mem_cons, List.not_mem_nil, or_false] at z
  rcases z with z | z | z
  · exact ne_of hq h.ins (fun y => nomatch y) z
  · exact fx.2.2.1 z
  · exact fx.2.2.2.1 z
/-! ### the machines of the lock -/
structure Mac where
  (b : Bool) (q dx t : Addr)
structure Stk where
  (q dx l : Addr) (m : Mac)
structure Cl3 where
  (Ck Cs Cl Cu : Addr)
def macC (C : Cl3) : Bool → Addr
  | true => C.Cl
  | false => C.Cu
def macN : Bool → Str
  | true => "_attempt"
  | false => "_giving"
def macR : Bool → Int → Rw
  | true, p => .swap 0 (.int 0) (.int (p + 1))
  | false, _ => .write 0 (.int 0)
def macT : Bool → Int → List V
  | true, p => [.str "swap", .int 0, .int 0, .int (p + 1)]
  | false, _ => [.str "write", .int 0, .int 0]
structure MacAt (C : Cl3) (H : Hp) (y : Mac) (p : Int) (v : V) : Prop where
  ins : H y.q = some (.ins (macC C y.b) y.dx [(macN y.b, .ref y.t), ("_number", v)])
  tup : H y.t = some (.tup (macT y.b p))
theorem MacAt.dp {K : PySem.W.Frag} {C : Cl3} {H : Hp} {y : Mac} {p : Int} {v : V} (h : MacAt C H y p v) : Dp K H (.ref y.t) (rwD (macR y.b p)) := by
  have ht := h.tup
  cases e : y.b with
  | true =>
    rw [e] at ht
    exact .tup (SqT.of ht) (.cons (.str _) (.cons (.int _) (.cons (.int _) (.cons (.int _) .nil))))
  | false =>
    rw [e] at ht
    exact .tup (SqT.of ht) (.cons (.str _) (.cons (.int _) (.cons (.int _) .nil)))
structure StkAt (C : Cl3) (H : Hp) (y : Stk) (ms : List V) (v : V) : Prop where
  ins : H y.q = some (.ins C.Cs y.dx [("_machines", .ref y.l), ("_value", v)])
  lst : H y.l = some (.lst ms)
def spKerInit (K : PySem.W.Frag) (C4 : Cl4) (C : Cl3) : Sp := fun vs H Q _ => ∃ (k dx : Addr) (x : MX) (s : MS), vs = [.ref k, .ref x.m] ∧ H k = some (.ins C.Ck dx []) ∧ MemAt K C4 H x s ∧
  ∀ H' fs, SameBut k H H' → H' k = some (.ins C.Ck dx (("memory", .ref x.m) :: fs)) → List.lookup ("sizes" : Str) (("memory", V.ref x.m) :: fs) = some (.ref x.z) → Q .non H'
def spLockInit (C : Cl3) (Cs : Addr) : Sp := fun vs H Q _ => ∃ (q dx k dk z dz : Addr) (fs : List (Str × V)) (n f b p : Int), vs = [.ref q, .ref k, .int p] ∧ H q = some (.ins C.Cl dx []) ∧ H k = some (.ins C.Ck dk fs) ∧ fs.lookup ("sizes" : Str) = some (.ref z) ∧
  H z = some (.ins Cs dz (szF n f b)) ∧ ∀ H' t, SameBut q H H' → H t = none → MacAt C H' ⟨true, q, dx, t⟩ p .non → Q .non H'
def spUnlockInit (C : Cl3) (Cs : Addr) : Sp := fun vs H Q _ => ∃ (q dx k dk z dz : Addr) (fs : List (Str × V)) (n f b : Int), vs = [.ref q, .ref k] ∧ H q = some (.ins C.Cu dx []) ∧ H k = some (.ins C.Ck dk fs) ∧ fs.lookup ("sizes" : Str) = some (.ref z) ∧
  H z = some (.ins Cs dz (szF n f b)) ∧ ∀ H' t, SameBut q H H' → H t = none → MacAt C H' ⟨false, q, dx, t⟩ 0 .non → Q .non H'
def spMReq (C : Cl3) (b : Bool) : Sp := fun vs H Q _ => ∃ (y : Mac) (p : Int) (v : V), y.b = b ∧ vs = [.ref y.q] ∧ MacAt C H y p v ∧
  ((v = .non ∧ Q (.ref y.t) H) ∨ ∃ n : Int, v = .int n ∧ ∀ t, H t = none → Q (.ref t) (upd H t (.tup [.str "end", .int n])))
def spMAcc (C : Cl3) (b : Bool) : Sp := fun vs H Q _ => ∃ (y : Mac) (p : Int) (v w : V) (t : Addr) (n : Int), y.b = b ∧ vs = [.ref y.q, .ref t] ∧ MacAt C H y p v ∧ H t = some (.tup [w, .int n]) ∧
  (b = true → ∃ c : Bool, w = .bl c) ∧ (b = true → w = .bl false → Q .non H) ∧ ((b = true → w = .bl true) → Q .non (upd H y.q (.ins (macC C y.b) y.dx [(macN y.b, .ref y.t), ("_number", .int n)])))
def spAsks (K : PySem.W.Frag) : Sp := fun vs H Q _ => ∃ (t : Addr) (ds : List PyData) (nm : Str), vs = [.ref t, .str nm] ∧ Dp K H (.ref t) (.tuple ds) ∧
  ((ds.length ≠ 2 ∧ Q (.bl false) H) ∨ ∃ (z : Str) (v : V) (d : PyData), ds = [.str z, d] ∧ SqT K H t [.str z, v] ∧ Q (.bl (decide (V.str z = V.str nm))) H)
def spStkInit (C : Cl3) : Sp := fun vs H Q _ => ∃ (q dx : Addr) (v : V), vs = [.ref q, v] ∧ H q = some (.ins C.Cs dx []) ∧
  ∀ H' l, SameBut q H H' → H l = none → l ≠ q → H' q = some (.ins C.Cs dx [("_machines", .ref l), ("_value", .non)]) → H' l = some (.lst [v]) → Q .non H'
def spEnded (C : Cl3) : Sp := fun vs H Q _ => ∃ (y : Stk) (ms : List V) (v : V), vs = [.ref y.q] ∧ StkAt C H y ms v ∧ ((ms = [] ∧ Q (.bl true) H) ∨ ∃ u, ms = [u] ∧ Q (.bl false) H)
def spStkVal (C : Cl3) : Sp := fun vs H Q _ => ∃ (y : Stk) (ms : List V) (v : V), vs = [.ref y.q] ∧ StkAt C H y ms v ∧ Q v H
def spEnd (C : Cl3) : Sp := fun vs H Q _ => ∃ (y : Stk) (u v w : V), vs = [.ref y.q, w] ∧ StkAt C H y [u] v ∧ Q .non (upd (upd H y.l (.lst [])) y.q (.ins C.Cs y.dx [("_machines", .ref y.l), ("_value", w)]))
def spSettled (C : Cl3) : Sp := fun vs H Q _ => ∃ (y : Stk) (p : Int) (v w : V), vs = [.ref y.q] ∧ StkAt C H y [.ref y.m.q] w ∧ MacAt C H y.m p v ∧
  ((v = .non ∧ Q (.ref y.m.t) H) ∨ ∃ n : Int, v = .int n ∧ ∀ H', Keep [y.q, y.l] H H' → KT H H' → StkAt C H' y [] (.int n) → Q .non H')
/-- the step is the last one -/
def lastB (b : Bool) (cells : List PyData) : Bool := !b || PyData.eqv (cellAt cells 0) (.int 0)
def spStep (K : PySem.W.Frag) (C4 : Cl4) (C : Cl3) : Sp := fun vs H Q _ => ∃ (y : Stk) (x : MX) (s : MS) (p : Int), vs = [.ref y.q, .ref x.m, .int p] ∧ MemAt K C4 H x s ∧ StkAt C H y [.ref y.m.q] .non ∧ MacAt C H y.m p .non ∧ Off H x y.l ∧
  0 ≤ p ∧ p < x.p ∧ s.n ≤ 100000 ∧
  ∀ H', Keep [x.m, x.cl, x.lg, y.q, y.l, y.m.q] H H' → KT H H' → MemAt K C4 H' x (rwNext s p (macR y.m.b p)) →
    (lastB y.m.b s.cells = false → StkAt C H' y [.ref y.m.q] .non ∧ MacAt C H' y.m p .non ∧ Keep [x.m, x.cl, x.lg] H H') →
    (lastB y.m.b s.cells = true → StkAt C H' y [] (.int ((s.n + 1 : Nat)))) → Q (.bl true) H'
theorem mach_ne (b : Bool) : ("_machines" : Str) ≠ macN b := by cases b <;> decide +kernel
theorem mac_names (b : Bool) : macN b ≠ "sizes" ∧ macN b ≠ "processors" ∧ macN b ≠ "_entries" ∧ macN b ≠ "_letters" := by
  cases b
  · exact ⟨by decide +kernel, by decide +kernel, by decide +kernel, by decide +kernel⟩
  · exact ⟨by decide +kernel, by decide +kernel, by decide +kernel, by decide +kernel⟩
theorem rwD_inj {r r2 : Rw} (e : rwD r = rwD r2) : r = r2 := by
  cases r <;> cases r2 <;> simp [rwD] at e <;> simp [e]
theorem macGood {K : PySem.W.Frag} {C : Cl4} {H : Hp} {x : MX} {s : MS} (h : MemAt K C H x s) (b : Bool) (p : Int) : RwGood (cellsN x.p x.f x.b) (macR b p) := by
  obtain ⟨⟨p0, p1⟩, ⟨f0, f1⟩, ⟨b0, b1⟩⟩ := okSz_at h.okS
  have c : 0 < cellsN x.p x.f x.b := by unfold cellsN; omega
  cases b with
  | true => exact ⟨⟨by decide, c⟩, cok_int _, cok_int _⟩
  | false => exact ⟨⟨by decide, c⟩, cok_int _⟩
end Sk
/-! Accesses that change buffers and boxes: what they leave as it was, and what they give. -/
namespace Tr
open PySem PySem.Spec PyProof.Rows L2 Dk Ek Nk Wk Lk Fk Mk Pk Ak Sk
/-! ### what does not belong to the memory -/
def Free (H : Hp) (x : MX) (q : Addr) : HO → Prop
  | .lst _ => Off H x q
  | .ins _ _ [] => False
  | .ins _ _ ((nm, _) :: _) => nm ≠ "sizes" ∧ nm ≠ "_entries"
  | _ => True
def Fr (x : MX) (H H' : Hp) : Prop := ∀ q o, H q = some o → Free H x q o → H' q = some o ∧ Free H' x q o
theorem Fr.refl (x : MX) (H : Hp) : Fr x H H := fun _ _ h f => ⟨h, f⟩
theorem Fr.trans {x : MX} {H H1 H2 : Hp} (a : Fr x H H1) (b : Fr x H1 H2) : Fr x H H2 := fun q o h f => b q o (a q o h f).1 (a q o h f).2
theorem free_t {H : Hp} {x : MX} {q : Addr} {o : HO} (h : IsT o) : Free H x q o := by
  cases o with
  | tup xs => exact True.intro
  | frz z u => exact True.intro
  | _ => exact h.elim
theorem Fr.kt {x : MX} {H H' : Hp} (a : Fr x H H') : KT H H' := fun b o h k => (a b o h (free_t k)).1
theorem Free.mv {H H' : Hp} {x : MX} {q : Addr} {o : HO} (f : Free H x q o) (e : Off H x q → Off H' x q) : Free H' x q o := by
  cases o with
  | lst xs => exact e f
  | ins C dx fs =>
    cases fs with
    | nil => exact f
    | cons y r => exact f
  | _ => exact f
theorem Fr.mk {x : MX} {H H' : Hp} (a : ∀ q o, H q = some o → Free H x q o → H' q = some o) (b : ∀ q vs, H q = some (.lst vs) → Off H x q → Off H' x q) : Fr x H H' := fun q o h f => ⟨a q o h f, by
  cases o with
  | lst xs => exact b q xs h f
  | ins C dx fs =>
    cases fs with
    | nil => exact f
    | cons y r => exact f
  | _ => exact f⟩
theorem Fr.same {K : PySem.W.Frag} {C : Cl4} {H H' : Hp} {x : MX} {s : MS} (h : MemAt K C H x s) (e : Same H H') : Fr x H H' := Fr.mk (fun q o hq _ => e _ _ hq) (fun q vs _ o => o.same h e)
/-- a list of one's own stays -/
theorem Fr.lst {x : MX} {H H' : Hp} {q : Addr} {vs : List V} (a : Fr x H H') (h : H q = some (.lst vs)) (o : Off H x q) : H' q = some (.lst vs) ∧ Off H' x q := a q _ h o
theorem Fr.seq {K : PySem.W.Frag} {x : MX} {H H' : Hp} {q : Addr} {vs : List V} (a : Fr x H H') (h : SqL K H q vs) (o : Off H x q) : SqL K H' q vs := by
  rcases h with (h | ⟨z, h⟩) | h
  · exact .inl (.inl (a q _ h o).1)
  · exact .inl (.inr ⟨z, (a q _ h True.intro).1⟩)
  · exact .inr h
/-- what is free is none of the memory's own -/
structure NotOwn (x : MX) (q : Addr) : Prop where
  m : q ≠ x.m
  cl : q ≠ x.cl
  lg : q ≠ x.lg
  bs : ∀ y ∈ x.bs, q ≠ y.1
  xs : ∀ y ∈ x.xs, q ≠ y.2.2
theorem free_own {K : PySem.W.Frag} {C : Cl4} {H : Hp} {x : MX} {s : MS} {q : Addr} {o : HO} (h : MemAt K C H x s) (hq : H q = some o) (f : Free H x q o) : NotOwn x q := by
  obtain ⟨vc, hc, _⟩ := h.cells
  obtain ⟨vl, hl, _⟩ := h.log
  have lf : ∀ {y : Addr} {vs : List V}, H y = some (.lst vs) → y ∈ x.bl :: x.xl :: x.cl :: x.lg :: (x.xs.map fun y => y.2.2) → q ≠ y := fun hy m z => by
    subst z
    rw [hq] at hy
    injection hy with hy
    subst hy
    exact f.fix m
  refine ⟨fun z => ?_, lf hc (by simp), lf hl (by simp), fun y hy z => ?_, fun y hy => ?_⟩
  · have h1 := h.ins
    rw [← z, hq] at h1
    injection h1 with h1
    subst h1
    exact f.1 rfl
  · obtain ⟨l, _, h1⟩ := buf_of h hy
    have h2 := h1.ins
    rw [← z, hq] at h2
    injection h2 with h2
    subst h2
    exact f.2 rfl
  · obtain ⟨vs, h1⟩ := box_of h hy
    exact lf h1.lst (by simp only [List.mem_cons]; exact .inr (.inr (.inr (.inr (List.mem_map.mpr ⟨y, hy, rfl⟩)))))
theorem Fr.keep {K : PySem.W.Frag} {C : Cl4} {H H' : Hp} {x : MX} {s : MS} (h : MemAt K C H x s) (e : Keep [x.m, x.cl, x.lg] H H') : Fr x H H' :=
  Fr.mk (fun q o hq f => e _ _ (by
    have n := free_own h hq f
    simp only [List.mem_cons, List.not_mem_nil, or_false, not_or]
    exact ⟨n.m, n.cl, n.lg⟩) hq) (fun q vs _ o => o.keep h e)
/-! ### a buffer is another -/
theorem bufs_ne {x : MX} (nd : (x.bs.map fun y => y.1).Nodup) {i j : Nat} {y z : Addr × Addr} (hi : x.bs[i]? = some y) (hj : x.bs[j]? = some z) (n : i ≠ j) : z.1 ≠ y.1 := fun e => by
  obtain ⟨h1, e1⟩ := List.getElem?_eq_some_iff.mp hi
  obtain ⟨h2, e2⟩ := List.getElem?_eq_some_iff.mp hj
  refine n (nodup_at nd (by rw [List.length_map]; exact h1) (by rw [List.length_map]; exact h2) ?_)
  rw [List.getElem_map, List.getElem_map, e1, e2, e]
theorem MemAt.setBuf {K : PySem.W.Frag} {C : Cl4} {H H' : Hp} {x : MX} {s : MS} {i : Nat} {y : Addr × Addr} {l : Addr} {zs : List (Addr × En)} (h : MemAt K C H x s) (hy : x.bs[i]? = some y) (sb : SameBut y.1 H H')
    (hB : BufAt C.Cb H' y.1 y.2 l (zs.map aV)) (hE : EnAll H' zs) (hl : H l = none) (lm : zs.length ≤ 2) : MemAt K C H' x ⟨s.n, s.cells, s.bufs.set i (zs.map Prod.snd), s.boxes, s.log⟩ := by
  have ym := mem_of_get hy
  obtain ⟨l0, vs0, hB0⟩ := buf_of h ym
  have kt : KT H H' := sb.kt hB0.ins
  have nl : ∀ {q : Addr} {xs : List V}, H q = some (.lst xs) → H' q = some (.lst xs) := fun hq => sb _ _ (ne_of hq hB0.ins (fun z => nomatch z)) hq
  obtain ⟨vc, hc, hcd⟩ := h.cells
  obtain ⟨vl, hlg, hld⟩ := h.log
  exact {
    ins := sb _ _ (fun z => h.ndI y ym z.symm) h.ins
    sz := sb _ _ (ins_ne h.sz hB0.ins (by decide +kernel)) h.sz
    okS := h.okS
    bl := nl h.bl
    xl := nl h.xl
    cells := ⟨vc, nl hc, dpAll_keep kt h.shC.no hcd⟩
    log := ⟨vl, nl hlg, dpAll_keep kt h.shL.no hld⟩
    buf := fun j z es h1 h2 => by
      by_cases ij : i = j
      · subst ij
        rw [hy] at h1
        cases h1
        have hi : i < s.bufs.length := by
          rw [h.lenB.2]
          exact (List.getElem?_eq_some_iff.mp hy).1
        rw [show (MS.mk s.n s.cells (s.bufs.set i (zs.map Prod.snd)) s.boxes s.log).bufs = s.bufs.set i (zs.map Prod.snd) from rfl, List.getElem?_set_self hi] at h2
        cases h2
        refine ⟨l, zs, hB, hE, rfl, fun m => ?_⟩
        simp only [List.mem_cons, List.mem_map] at m
        rcases m with m | m | ⟨u, hu, m⟩
        · rw [m, hc] at hl; cases hl
        · rw [m, hlg] at hl; cases hl
        · obtain ⟨vs, hX⟩ := box_of h hu
          rw [← m, hX.lst] at hl
          cases hl
      · rw [show (MS.mk s.n s.cells (s.bufs.set i (zs.map Prod.snd)) s.boxes s.log).bufs = s.bufs.set i (zs.map Prod.snd) from rfl, List.getElem?_set_ne ij] at h2
        obtain ⟨l2, zs2, h3, h4, h5, h6⟩ := h.buf j z es h1 h2
        exact ⟨l2, zs2, ⟨sb _ _ (bufs_ne h.ndB hy h1 ij) h3.ins, nl h3.lst⟩, h4.kt kt, h5, h6⟩
    box := fun j z ls h1 h2 => by
      obtain ⟨vs, h3, h4⟩ := h.box j z ls h1 h2
      exact ⟨vs, ⟨sb _ _ (ins_ne h3.ins hB0.ins (by decide +kernel)) h3.ins, nl h3.lst⟩, dpAll_keep kt (h.shX ls (mem_of_get h2)).no h4⟩
    lenC := h.lenC
    lenB := ⟨h.lenB.1, (List.length_set).trans h.lenB.2⟩
    lenX := h.lenX
    lenL := h.lenL
    shC := h.shC
    shL := h.shL
    shX := h.shX
    lim := fun es he => by
      rcases List.mem_or_eq_of_mem_set he with he | rfl
      · exact h.lim es he
      · rw [List.length_map]
        exact lm
    ndL := h.ndL
    ndB := h.ndB
    ndI := h.ndI }
theorem Fr.buf {K : PySem.W.Frag} {C : Cl4} {H H' : Hp} {x : MX} {s : MS} {i : Nat} {y : Addr × Addr} {l : Addr} {vs : List V} (h : MemAt K C H x s) (hy : x.bs[i]? = some y) (sb : SameBut y.1 H H') (hB : BufAt C.Cb H' y.1 y.2 l vs) (hl : H l = none) : Fr x H H' := by
  have ym := mem_of_get hy
  refine Fr.mk (fun q o hq f => sb _ _ ((free_own h hq f).bs y ym) hq) (fun q ws hq o => ⟨o.fix, fun z hz D e l2 h2 => ?_⟩)
  by_cases zy : z.1 = y.1
  · rw [zy, hB.ins] at h2
    injection h2 with h2
    injection h2 with _ _ h2
    injection h2 with h2 _
    injection h2 with _ h2
    injection h2 with h2
    intro k
    rw [← h2] at k
    rw [k, hq] at hl
    cases hl
  · obtain ⟨l3, _, h3⟩ := buf_of h hz
    have h4 := sb _ _ zy h3.ins
    rw [h2] at h4
    have h5 := h3.ins
    rw [← h4] at h5
    exact o.ent z hz D e l2 h5
/-! ### a box is another -/
theorem boxes_ne {x : MX} (nd : (x.xs.map fun y => y.2.2).Nodup) {i j : Nat} {y z : Addr × Addr × Addr} (hi : x.xs[i]? = some y) (hj : x.xs[j]? = some z) (n : i ≠ j) : z.2.2 ≠ y.2.2 := fun e => by
  obtain ⟨h1, e1⟩ := List.getElem?_eq_some_iff.mp hi
  obtain ⟨h2, e2⟩ := List.getElem?_eq_some_iff.mp hj
  refine n (nodup_at nd (by rw [List.length_map]; exact h1) (by rw [List.length_map]; exact h2) ?_)
  rw [List.getElem_map, List.getElem_map, e1, e2, e]
theorem MemAt.setBox {K : PySem.W.Frag} {C : Cl4} {H : Hp} {x : MX} {s : MS} {i : Nat} {y : Addr × Addr × Addr} {vs : List V} {ls : List PyData} (h : MemAt K C H x s) (hy : x.xs[i]? = some y) (hd : DpAll K H vs ls) (sh : Shs ls) :
    MemAt K C (upd H y.2.2 (.lst vs)) x ⟨s.n, s.cells, s.bufs, s.boxes.set i ls, s.log⟩ := by
  have ym := mem_of_get hy
  obtain ⟨vs0, hX0⟩ := box_of h ym
  have kt : KT H (upd H y.2.2 (.lst vs)) := KT.lst hX0.lst
  have ni : ∀ {q D e : Addr} {fs : List (Str × V)}, H q = some (.ins D e fs) → upd H y.2.2 (.lst vs) q = some (.ins D e fs) := fun hq => (upd_ne (ne_of hq hX0.lst (fun z => nomatch z))).trans hq
  obtain ⟨vc, hc, hcd⟩ := h.cells
  obtain ⟨vl, hlg, hld⟩ := h.log
  have nd := h.ndL
  simp only [List.nodup_cons, List.mem_cons, not_or] at nd
  have ym2 : y.2.2 ∈ x.xs.map fun y => y.2.2 := List.mem_map.mpr ⟨y, ym, rfl⟩
  have nx : ∀ {q : Addr}, q ∉ (x.xs.map fun y => y.2.2) → q ≠ y.2.2 := fun h z => h (z ▸ ym2)
  exact {
    ins := ni h.ins
    sz := ni h.sz
    okS := h.okS
    bl := (upd_ne (nx nd.1.2.2.2)).trans h.bl
    xl := (upd_ne (nx nd.2.1.2.2)).trans h.xl
    cells := ⟨vc, (upd_ne (nx nd.2.2.1.2)).trans hc, dpAll_keep kt h.shC.no hcd⟩
    log := ⟨vl, (upd_ne (nx nd.2.2.2.1)).trans hlg, dpAll_keep kt h.shL.no hld⟩
    buf := fun j z es h1 h2 => by
      obtain ⟨l2, zs2, h3, h4, h5, h6⟩ := h.buf j z es h1 h2
      have h7 := h6
      simp only [List.mem_cons, not_or] at h7
      exact ⟨l2, zs2, ⟨ni h3.ins, (upd_ne (nx h7.2.2)).trans h3.lst⟩, h4.kt kt, h5, h6⟩
    box := fun j z ls2 h1 h2 => by
      by_cases ij : i = j
      · subst ij
        rw [hy] at h1
        cases h1
        have hi : i < s.boxes.length := by
          rw [h.lenX.2]
          exact (List.getElem?_eq_some_iff.mp hy).1
        rw [show (MS.mk s.n s.cells s.bufs (s.boxes.set i ls) s.log).boxes = s.boxes.set i ls from rfl, List.getElem?_set_self hi] at h2
        cases h2
        obtain ⟨vs2, h3, _⟩ := h.box i y _ hy (List.getElem?_eq_getElem hi)
        exact ⟨vs, ⟨ni h3.ins, upd_same⟩, dpAll_keep kt sh.no hd⟩
      · rw [show (MS.mk s.n s.cells s.bufs (s.boxes.set i ls) s.log).boxes = s.boxes.set i ls from rfl, List.getElem?_set_ne ij] at h2
        obtain ⟨vs2, h3, h4⟩ := h.box j z ls2 h1 h2
        exact ⟨vs2, ⟨ni h3.ins, (upd_ne (boxes_ne nd.2.2.2.2 hy h1 ij)).trans h3.lst⟩, dpAll_keep kt (h.shX ls2 (mem_of_get h2)).no h4⟩
    lenC := h.lenC
    lenB := h.lenB
    lenX := ⟨h.lenX.1, (List.length_set).trans h.lenX.2⟩
    lenL := h.lenL
    shC := h.shC
    shL := h.shL
    shX := fun ls2 h2 => by
      rcases List.mem_or_eq_of_mem_set h2 with h2 | rfl
      · exact h.shX ls2 h2
      · exact sh
    lim := h.lim
    ndL := h.ndL
    ndB := h.ndB
    ndI := h.ndI }
theorem Fr.box {K : PySem.W.Frag} {C : Cl4} {H : Hp} {x : MX} {s : MS} {i : Nat} {y : Addr × Addr × Addr} {vs : List V} (h : MemAt K C H x s) (hy : x.xs[i]? = some y) : Fr x H (upd H y.2.2 (.lst vs)) := by
  have ym := mem_of_get hy
  obtain ⟨vs0, hX0⟩ := box_of h ym
  exact Fr.mk (fun q o hq f => (upd_ne ((free_own h hq f).xs y ym)).trans hq) (fun q ws hq o => o.put h hX0.lst)
/-! ### letters, the state, requests -/
structure Lt where
  t : Int
  ps : List (Int × Int)
def ltD (l : Lt) : PyData := .tuple [.int l.t, .tuple (l.ps.map pD)]
structure Ts where
  n : Nat
  cells : List PyData
  bufs : List (List En)
  boxes : List (List Lt)
  log : List PyData
def Ts.ms (s : Ts) : MS := ⟨s.n, s.cells, s.bufs, s.boxes.map (List.map ltD), s.log⟩
inductive Rq where
  | read (c : Int)
  | write (c : Int) (d : PyData)
  | walk (s g : Int)
  | send (to : Nat) (l : Lt)
  | take
def rqD : Rq → PyData
  | .write c d => .tuple [.str "write", .int c, d]
  | .walk s g => .tuple [.str "walk", .int s, .int g]
  | .read c => .tuple [.str "read", .int c]
  | .send to l => .tuple [.str "send", .int (to : Int), ltD l]
  | .take => .tuple [.str "take"]
def wordC (P s g : Int) : Int := 1 + P + 8 * s + g
def frameC (P f i : Int) : Int := 1 + P + 4 * 8 + 2 * f + i
def wdOf : PyData → Wd
  | .tuple [.str z, .int f, .bool w] => if z = "frame" then .frame f w else .non
  | _ => .non
theorem putM_of (s p : Int) (x : Wd) (es : List En) : putM s p (wdOf (wD x)) es = putM s p x es := by
  cases x with
  | frame f w =>
    show putM s p (if ("frame" : Str) = "frame" then .frame f w else .non) es = _
    rw [if_pos rfl]
  | _ => rfl
structure Out where
  cells : List PyData
  bufs : List (List En)
  boxes : List (List Lt)
  val : PyData
def bufAt (s : Ts) (p : Nat) : List En := s.bufs[p]?.getD []
def boxAt (s : Ts) (p : Nat) : List Lt := s.boxes[p]?.getD []
def takeO (s : Ts) (p : Nat) : List Lt → Out
  | [] => ⟨s.cells, s.bufs, s.boxes, .bool false⟩
  | l :: r => ⟨s.cells.set (1 + p) (.int l.t), s.bufs.set p ((bufAt s p).filter (keep l.ps)), s.boxes.set p r, .bool true⟩
def runR (P : Int) (s : Ts) (p : Nat) : Rq → Out
  | .write c d => ⟨s.cells.set c.toNat d, s.bufs, s.boxes, .none⟩
  | .walk sp g => ⟨s.cells, s.bufs.set p (putM sp g (wdOf (cellAt s.cells (wordC P sp g))) (bufAt s p)), s.boxes, cellAt s.cells (wordC P sp g)⟩
  | .read c => ⟨s.cells, s.bufs, s.boxes, cellAt s.cells c⟩
  | .send to l => ⟨s.cells, s.bufs, s.boxes.set to (boxAt s to ++ [l]), .none⟩
  | .take => takeO s p (boxAt s p)
def after (P : Int) (s : Ts) (p : Nat) (r : Rq) : Ts := ⟨s.n, (runR P s p r).cells, (runR P s p r).bufs, (runR P s p r).boxes, s.log⟩
def logT (n : Nat) (p : Nat) (r : Rq) : PyData := logD (n : Nat) (p : Int) (rqD r)
def tnext (P : Int) (s : Ts) (p : Nat) (r : Rq) : Ts := ⟨s.n + 1, (runR P s p r).cells, (runR P s p r).bufs, (runR P s p r).boxes, s.log ++ [logT (s.n + 1) p r]⟩
/-- a value that may be written -/
structure Vok (d : PyData) : Prop where
  no : noL d = true
  sh : Sh 5 d
  val : valueD d = true
  few : FewD d
structure LtOk (l : Lt) : Prop where
  pos : 1 ≤ l.t
  ne : l.ps ≠ []
  few : l.ps.length ≤ 10
  ok : ∀ q ∈ l.ps, (0 ≤ q.1 ∧ q.1 < 4) ∧ (0 ≤ q.2 ∧ q.2 < 8)
def inS (s g : Int) : Prop := (0 ≤ s ∧ s < 4) ∧ (0 ≤ g ∧ g < 8)
def RqOk (x : MX) (s : Ts) : Rq → Prop
  | .write c d => (0 ≤ c ∧ c < cellsN x.p x.f x.b) ∧ Vok d
  | .walk sp g => inS sp g ∧ ∃ w, cellAt s.cells (wordC x.p sp g) = wD w
  | .read c => 0 ≤ c ∧ c < cellsN x.p x.f x.b
  | .send to l => (to : Int) < x.p ∧ LtOk l
  | .take => True
/-- entries lead to frames that exist, boxes are small -/
structure TOk (x : MX) (s : Ts) : Prop where
  fr : ∀ es ∈ s.bufs, ∀ e ∈ es, 0 ≤ e.f ∧ e.f < x.f
  bx : ∀ ls ∈ s.boxes, ls.length ≤ 1000 ∧ ∀ l ∈ ls, l.ps.length ≤ 10
theorem frame_in {es : List En} {sp g : Int} {w : Bool} {f : Int} (h : frameM sp g w es = some f) : ∃ e ∈ es, e.f = f := by
  unfold frameM at h
  obtain ⟨e, h1, h2⟩ := Option.map_eq_some_iff.mp h
  exact ⟨e, List.mem_of_find?_eq_some h1, h2⟩
theorem noL_pairs (ps : List (Int × Int)) : noL (.tuple (ps.map pD)) = true := noL_tup fun d hd => by
  obtain ⟨q, _, rfl⟩ := List.mem_map.mp hd
  simp only [pD, noL, noLs, Bool.and_self]
theorem sh_pairs (ps : List (Int × Int)) : Sh 2 (.tuple (ps.map pD)) := sh_tup fun d hd => by
  obtain ⟨q, _, rfl⟩ := List.mem_map.mp hd
  exact shP q
theorem noL_lt (l : Lt) : noL (ltD l) = true := by
  have := noL_pairs l.ps
  simp only [ltD, noL, noLs, Bool.and_self, Bool.true_and, Bool.and_true] at this ⊢
  exact this
theorem sh_lt (l : Lt) : Sh 3 (ltD l) := sh_tup (sh_c ((sh_int _).up (by decide)) (sh_c (sh_pairs l.ps) sh_n))
theorem shs_lts (ls : List Lt) : Shs (ls.map ltD) := fun d hd => by
  obtain ⟨l, _, rfl⟩ := List.mem_map.mp hd
  exact ⟨noL_lt l, (sh_lt l).up (by decide)⟩
theorem boxes_at (s : Ts) {p : Nat} (h : p < s.boxes.length) : s.ms.boxes[p]? = some ((boxAt s p).map ltD) := by
  show (s.boxes.map (List.map ltD))[p]? = _
  rw [List.getElem?_map, List.getElem?_eq_getElem h]
  unfold boxAt
  rw [List.getElem?_eq_getElem h]
  rfl
theorem bufs_at (s : Ts) {p : Nat} (h : p < s.bufs.length) : s.bufs[p]? = some (bufAt s p) := by
  unfold bufAt
  rw [List.getElem?_eq_getElem h]
  rfl
theorem map_set {α β : Type} (f : α → β) (l : List α) (i : Nat) (x : α) : (l.set i x).map f = (l.map f).set i (f x) := List.map_set
/-! ### the requests are requests -/
theorem parts_tr : partsOf "write" = some (["cell", "value"] : List Str) ∧ partsOf "send" = some (["processor", "letter"] : List Str) ∧ partsOf "take" = some ([] : List Str) ∧ partsOf "walk" = some (["space", "page"] : List Str) ∧ partsOf "load" = some (["space", "page", "index"] : List Str) ∧
    partsOf "store" = some (["space", "page", "index", "value"] : List Str) ∧ partsOf "change" = some (["space", "page", "index", "value", "value"] : List Str) := ⟨by decide +kernel, by decide +kernel, by decide +kernel, by decide +kernel, by decide +kernel, by decide +kernel, by decide +kernel⟩
theorem part_k (d : PyData) (p f b : Int) : partD d "value" p f b = valueD d ∧ partD d "letter" p f b = letterD d ∧ partD d "cell" p f b = belowD d (cellsN p f b) ∧ partD d "processor" p f b = belowD d p ∧ partD d "space" p f b = belowD d 4 ∧ partD d "page" p f b = belowD d 8 ∧ partD d "index" p f b = belowD d 2 := by
  refine ⟨?_, ?_, ?_, ?_, ?_, ?_, ?_⟩
  · unfold partD; rw [if_pos rfl]
  · unfold partD; rw [if_neg (by decide +kernel), if_pos rfl]
  · unfold partD boundK; rw [if_neg (by decide +kernel), if_neg (by decide +kernel), if_pos rfl]
  · unfold partD boundK; rw [if_neg (by decide +kernel), if_neg (by decide +kernel), if_neg (by decide +kernel), if_pos rfl]
  · unfold partD boundK; rw [if_neg (by decide +kernel), if_neg (by decide +kernel), if_neg (by decide +kernel), if_neg (by decide +kernel), if_pos rfl]
  · unfold partD boundK; rw [if_neg (by decide +kernel), if_neg (by decide +kernel), if_neg (by decide +kernel), if_neg (by decide +kernel), if_neg (by decide +kernel), if_pos rfl]
  · unfold partD boundK; rw [if_neg (by decide +kernel), if_neg (by decide +kernel), if_neg (by decide +kernel), if_neg (by decide +kernel), if_neg (by decide +kernel), if_neg (by decide +kernel)]
theorem below_of {i n : Int} (h : 0 ≤ i ∧ i < n) : belowD (.int i) n = true := by simp only [belowD, decide_eq_true h.1, decide_eq_true h.2, Bool.and_self]
theorem letter_ok {l : Lt} (h : LtOk l) : letterD (ltD l) = true := by
  have e1 : posD (.int l.t) = true := by
    simp only [posD, Bool.not_eq_true', decide_eq_false_iff_not]
    have := h.pos
    omega
  have e2 : manyD (.tuple (l.ps.map pD)) = true := by
    have : 0 < l.ps.length := List.length_pos_iff.mpr h.ne
    simp only [manyD, Bool.and_eq_true, Bool.not_eq_true', decide_eq_false_iff_not, List.length_map, List.all_eq_true, List.mem_map]
    refine ⟨by omega, ?_⟩
    rintro d ⟨q, hq, rfl⟩
    obtain ⟨h1, h2⟩ := h.ok q hq
    show (belowD (.int q.1) 4 && belowD (.int q.2) 8) = true
    rw [below_of h1, below_of h2]
    rfl
  show (posD (.int l.t) && manyD (.tuple (l.ps.map pD))) = true
  rw [e1, e2]
  rfl
theorem req_true {x : MX} {s : Ts} {r : Rq} (h : RqOk x s r) : reqD (rqD r) x.p x.f x.b = true := by
  obtain ⟨p1, p2, p3, p4, p5, p6, p7⟩ := parts_tr
  have p8 : partsOf "read" = some (["cell"] : List Str) := by decide +kernel
  have k := fun d => part_k d x.p x.f x.b
  have go : ∀ (z : Str) (ds : List PyData) (ks : List Str), partsOf z = some ks → (decide (ds.length = ks.length) && (ds.zip ks).all fun y => partD y.1 y.2 x.p x.f x.b) = true → reqD (.tuple (.str z :: ds)) x.p x.f x.b = true := fun z ds ks e1 e2 => by
    show reqL z ds x.p x.f x.b = true
    unfold reqL
    rw [e1]
    exact e2
  cases r with
  | write c d =>
    refine go _ _ _ p1 ?_
    simp only [List.length_cons, List.length_nil, List.zip_cons_cons, List.zip_nil_left, List.all_cons, List.all_nil, (k _).1, (k _).2.2.1, below_of h.1, h.2.val]
    rfl
  | walk sp g =>
    refine go _ _ _ p4 ?_
    simp only [List.length_cons, List.length_nil, List.zip_cons_cons, List.zip_nil_left, List.all_cons, List.all_nil, (k _).2.2.2.2.1, (k _).2.2.2.2.2.1, below_of h.1.1, below_of h.1.2]
    rfl
  | read c =>
    refine go _ _ _ p8 ?_
    simp only [List.length_cons, List.length_nil, List.zip_cons_cons, List.zip_nil_left, List.all_cons, List.all_nil, (k _).2.2.1, below_of h]
    rfl
  | send to l =>
    refine go _ _ _ p2 ?_
    simp only [List.length_cons, List.length_nil, List.zip_cons_cons, List.zip_nil_left, List.all_cons, List.all_nil, (k _).2.2.2.1, (k _).2.1, below_of ⟨Int.natCast_nonneg _, h.1⟩, letter_ok h.2]
    rfl
  | take => exact go _ _ _ p3 rfl
theorem vok_int (i : Int) : Vok (.int i) := ⟨by simp only [noL], (sh_int i).up (by decide), rfl, fun t ps e => by cases e⟩
theorem few_lt {l : Lt} (h : l.ps.length ≤ 10) : FewD (ltD l) := fun t ps e => by
  simp only [ltD, PyData.tuple.injEq, List.cons.injEq, and_true] at e
  rw [← e.2, List.length_map]
  omega
theorem few_int (i : Int) : FewD (.int i) := fun t ps e => by cases e
theorem few_str (z : Str) : FewD (.str z) := fun t ps e => by cases e
theorem rq_shape {x : MX} {s : Ts} {r : Rq} (h : RqOk x s r) : FewR (rqD r) ∧ noL (rqD r) = true ∧ Sh 6 (rqD r) := by
  have st : ∀ z : Str, PyData.canLay0 (.str z) = true → Sh 5 (.str z) := fun z hz => (sh_str z hz).up (by decide)
  have si : ∀ i : Int, Sh 5 (.int i) := fun i => (sh_int i).up (by decide)
  have fw : ∀ ds : List PyData, ds.length ≤ 100 → (∀ d ∈ ds, FewD d) → FewR (.tuple ds) := fun ds h1 h2 => ⟨fun es e => by cases e; exact h1, fun es e => by cases e; exact h2⟩
  have fc : ∀ {d : PyData} {ds : List PyData}, FewD d → (∀ d ∈ ds, FewD d) → ∀ z ∈ d :: ds, FewD z := fun h1 h2 z hz => (List.mem_cons.mp hz).elim (fun e => e ▸ h1) (h2 z)
  have fn : ∀ d ∈ ([] : List PyData), FewD d := fun _ h => absurd h List.not_mem_nil
  cases r with
  | write c d => exact ⟨fw _ (by simp) (fc (few_str _) (fc (few_int _) (fc h.2.few fn))), by simp only [rqD, noL, noLs, h.2.no, Bool.and_self], sh_tup (sh_c (st _ (by decide +kernel)) (sh_c (si _) (sh_c h.2.sh sh_n)))⟩
  | walk sp g => exact ⟨fw _ (by simp) (fc (few_str _) (fc (few_int _) (fc (few_int _) fn))), by simp only [rqD, noL, noLs, Bool.and_self], sh_tup (sh_c (st _ (by decide +kernel)) (sh_c (si _) (sh_c (si _) sh_n)))⟩
  | read c => exact ⟨fw _ (by simp) (fc (few_str _) (fc (few_int _) fn)), by simp only [rqD, noL, noLs, Bool.and_self], sh_tup (sh_c (st _ (by decide +kernel)) (sh_c (si _) sh_n))⟩
  | send to l => exact ⟨fw _ (by simp) (fc (few_str _) (fc (few_int _) (fc (few_lt h.2.few) fn))), by simp only [rqD, noL, noLs, noL_lt, Bool.and_self], sh_tup (sh_c (st _ (by decide +kernel)) (sh_c (si _) (sh_c ((sh_lt l).up (by decide)) sh_n)))⟩
  | take => exact ⟨fw _ (by decide) (fc (few_str _) fn), by simp only [rqD, noL, noLs, Bool.and_self], sh_tup (sh_c (st _ (by decide +kernel)) sh_n)⟩
/-! ### promises -/
def spDrop (K : PySem.W.Frag) (C : Addr) : Sp := fun vs H Q _ => ∃ (b dx l : Addr) (zs : List (Addr × En)) (y : V) (ps : List (Int × Int)), vs = [.ref b, y] ∧ BufAt C H b dx l (zs.map aV) ∧ EnAll H zs ∧ zs.length ≤ 1000 ∧
  (Dp K H y (.list (ps.map pD)) ∨ Dp K H y (.tuple (ps.map pD))) ∧ ∀ H' l', SameBut b H H' → H l' = none → BufAt C H' b dx l' ((zs.filter fun z => keep ps z.2).map aV) → Q .non H'
def spLeadsW (K : PySem.W.Frag) : Sp := fun vs H Q _ => ∃ (y : V) (x : Wd), vs = [y] ∧ Dp K H y (wD x) ∧ Q (.bl x.leads) H
def spPut (K : PySem.W.Frag) (C : Addr) : Sp := fun vs H Q _ => ∃ (b dx l : Addr) (zs : List (Addr × En)) (s p : Int) (y : V) (x : Wd), vs = [.ref b, .int s, .int p, y] ∧ BufAt C H b dx l (zs.map aV) ∧ EnAll H zs ∧ zs.length ≤ 2 ∧
  Dp K H y (wD x) ∧ ∀ H' l' zs', SameBut b H H' → H l' = none → BufAt C H' b dx l' (zs'.map aV) → EnAll H' zs' → zs'.map Prod.snd = putM s p x (zs.map Prod.snd) → Q .non H'
def spFrameFor (C : Addr) : Sp := fun vs H Q _ => ∃ (b dx l : Addr) (zs : List (Addr × En)) (s p : Int) (wr : Bool), vs = [.ref b, .int s, .int p, .bl wr] ∧ BufAt C H b dx l (zs.map aV) ∧ EnAll H zs ∧
  ∀ H', Same H H' → Q (optV (frameM s p wr (zs.map Prod.snd))) H'
def spBoxTake (C : Addr) : Sp := fun vs H Q _ => ∃ (b dx l : Addr) (zs : List V), vs = [.ref b] ∧ BoxAt C H b dx l zs ∧ (zs = [] → Q .non H) ∧ ∀ z r, zs = z :: r → Q z (upd H l (.lst r))
def spBoxSend (K : PySem.W.Frag) (C : Addr) : Sp := fun vs H Q _ => ∃ (b dx l : Addr) (zs : List V) (v : V) (d : PyData), vs = [.ref b, v] ∧ BoxAt C H b dx l zs ∧ zs.length ≤ 1000 ∧ Dp K H v d ∧ FewD d ∧ letterD d = true ∧ ∀ H1, Same H H1 → Q .non (upd H1 l (.lst (zs ++ [v])))
def spTakeM (K : PySem.W.Frag) (C : Cl4) : Sp := fun vs H Q _ => ∃ (x : MX) (s : Ts) (p : Nat), vs = [.ref x.m, .int (p : Int)] ∧ MemAt K C H x s.ms ∧ TOk x s ∧ (p : Int) < x.p ∧
  ∀ H' v, Fr x H H' → MemAt K C H' x (after x.p s p .take).ms → Dp K H' v (runR x.p s p .take).val → Q v H'
def spWalkM (K : PySem.W.Frag) (C : Cl4) : Sp := fun vs H Q _ => ∃ (x : MX) (s : Ts) (p : Nat) (sp g : Int), vs = [.ref x.m, .int (p : Int), .int sp, .int g] ∧ MemAt K C H x s.ms ∧ (p : Int) < x.p ∧ RqOk x s (.walk sp g) ∧
  ∀ H' v, Fr x H H' → MemAt K C H' x (after x.p s p (.walk sp g)).ms → Dp K H' v (runR x.p s p (.walk sp g)).val → Q v H'
def spResM (K : PySem.W.Frag) (C : Cl4) : Sp := fun vs H Q _ => ∃ (x : MX) (s : Ts) (p : Nat) (t : Addr) (r : Rq), vs = [.ref x.m, .int (p : Int), .ref t] ∧ MemAt K C H x s.ms ∧ TOk x s ∧ (p : Int) < x.p ∧ Dp K H (.ref t) (rqD r) ∧ RqOk x s r ∧
  ∀ H' v, Fr x H H' → MemAt K C H' x (after x.p s p r).ms → Dp K H' v (runR x.p s p r).val → Q v H'
def spAcc (K : PySem.W.Frag) (C : Cl4) : Sp := fun vs H Q _ => ∃ (x : MX) (s : Ts) (p : Nat) (y : V) (r : Rq), vs = [.ref x.m, .int (p : Int), y] ∧ MemAt K C H x s.ms ∧ TOk x s ∧ (p : Int) < x.p ∧ Dp K H y (rqD r) ∧ RqOk x s r ∧ s.n ≤ 100000 ∧
  ∀ H' v t, Fr x H H' → MemAt K C H' x (tnext x.p s p r).ms → H' t = some (.tup [v, .int ((s.n + 1 : Nat))]) → Dp K H' v (runR x.p s p r).val → Q (.ref t) H'
end Tr
/-! The kernel's ticket, the machine of an invalidation, a stack that holds it. -/
namespace Iv
open PySem PySem.Spec PyProof.Rows L2 Dk Ek Nk Wk Lk Fk Mk Pk Ak Sk Tr
def kerF (x : MX) (d o o2 o3 : Addr) (t : Nat) : List (Str × V) := [("memory", .ref x.m), ("sizes", .ref x.z), ("spaces", .ref d), ("frames", .ref o), ("blocks", .ref o2), ("hand", .ref o3), ("ticket", .int (t : Int))]
theorem ker_put (x : MX) (d o o2 o3 : Addr) (t : Nat) : putF "ticket" (.int ((t : Int) + 1)) (kerF x d o o2 o3 t) = kerF x d o o2 o3 (t + 1) := by
  have e : ((t : Nat) : Int) + 1 = ((t + 1 : Nat) : Int) := by omega
  rw [e]
  rfl
def KerAt (C : Addr) (H : Hp) (k dk : Addr) (x : MX) (t : Nat) : Prop := ∃ d o o2 o3, H k = some (.ins C dk (kerF x d o o2 o3 t))
def spKer8 (K : PySem.W.Frag) (C4 : Cl4) (Ck : Addr) : Sp := fun vs H Q _ => ∃ (k dx : Addr) (x : MX) (s : MS), vs = [.ref k, .ref x.m] ∧ H k = some (.ins Ck dx []) ∧ MemAt K C4 H x s ∧
  ∀ H' d o o2 o3, SameBut k H H' → H' k = some (.ins Ck dx (kerF x d o o2 o3 0)) → Q .non H'
def spTicket (Ck : Addr) : Sp := fun vs H Q _ => ∃ (k dk d o o2 o3 : Addr) (x : MX) (t : Nat), vs = [.ref k] ∧ H k = some (.ins Ck dk (kerF x d o o2 o3 t)) ∧ Q (.int ((t : Int) + 1)) (upd H k (.ins Ck dk (kerF x d o o2 o3 (t + 1))))
structure Iv where
  (q dx os : Addr)
structure IvS where
  m : List Nat
  sent : Nat
  ans : Nat
  num : Option Nat
  l : Option Lt
def ivF (z os : Addr) (lv : V) (s : IvS) : List (Str × V) := [("_sizes", .ref z), ("_others", .ref os), ("_letter", lv), ("_sent", .int (s.sent : Int)), ("_answered", .int (s.ans : Int)), ("_number", natV s.num)]
theorem iv_num (z os : Addr) (lv : V) (v : IvS) (n : Nat) : putF "_number" (.int (n : Int)) (ivF z os lv v) = ivF z os lv ⟨v.m, v.sent, v.ans, some n, v.l⟩ := by rfl
theorem iv_sent (z os : Addr) (lv : V) (v : IvS) : putF "_sent" (.int ((v.sent : Int) + 1)) (ivF z os lv v) = ivF z os lv ⟨v.m, v.sent + 1, v.ans, v.num, v.l⟩ := by
  have e : ((v.sent : Nat) : Int) + 1 = ((v.sent + 1 : Nat) : Int) := by omega
  rw [e]
  rfl
theorem iv_ans (z os : Addr) (lv : V) (v : IvS) : putF "_answered" (.int ((v.ans : Int) + 1)) (ivF z os lv v) = ivF z os lv ⟨v.m, v.sent, v.ans + 1, v.num, v.l⟩ := by
  have e : ((v.ans : Nat) : Int) + 1 = ((v.ans + 1 : Nat) : Int) := by omega
  rw [e]
  rfl
theorem iv_init (z l : Addr) : putF "_number" .non (putF "_answered" (.int 0) (putF "_sent" (.int 0) (putF "_letter" .non (putF "_others" (.ref l) (putF "_sizes" (.ref z) []))))) = ivF z l .non ⟨[], 0, 0, none, none⟩ := by rfl
theorem iv_letter (z os : Addr) (lv lv' : V) (v : IvS) : putF "_letter" lv' (ivF z os lv v) = ivF z os lv' v := by rfl
theorem iv_others (z os os' : Addr) (lv : V) (v : IvS) : putF "_others" (.ref os') (ivF z os lv v) = ivF z os' lv v := by rfl
def LetAt (K : PySem.W.Frag) (H : Hp) (lv : V) : Option Lt → Prop
  | none => lv = .non
  | some l => ∃ t vp, lv = .ref t ∧ H t = some (.tup [.int l.t, vp]) ∧ Dp K H vp (.tuple (l.ps.map pD))
structure InvAt (K : PySem.W.Frag) (C : Addr) (H : Hp) (z : Addr) (y : Iv) (lv : V) (s : IvS) : Prop where
  ins : H y.q = some (.ins C y.dx (ivF z y.os lv s))
  os : H y.os = some (.lst (s.m.map fun (n : Nat) => V.int (n : Int)))
  lt : LetAt K H lv s.l
  few : s.m.length ≤ 10
  has : s.m ≠ [] → ∃ l, s.l = some l
theorem LetAt.kt {K : PySem.W.Frag} {H H' : Hp} {lv : V} {l : Option Lt} (h : LetAt K H lv l) (kt : KT H H') : LetAt K H' lv l := by
  cases l with
  | none => exact h
  | some l =>
    obtain ⟨t, vp, h1, h2, h3⟩ := h
    exact ⟨t, vp, h1, kt _ _ h2 True.intro, dp_keep kt (noL_pairs l.ps) h3⟩
theorem LetAt.dp {K : PySem.W.Frag} {H : Hp} {lv : V} {l : Lt} (h : LetAt K H lv (some l)) : Dp K H lv (ltD l) := by
  obtain ⟨t, vp, rfl, h2, h3⟩ := h
  exact .tup (SqT.of h2) (.cons (.int _) (.cons h3 .nil))
theorem InvAt.fr {K : PySem.W.Frag} {C : Addr} {H H' : Hp} {x : MX} {z : Addr} {y : Iv} {lv : V} {s : IvS} (h : InvAt K C H z y lv s) (f : Fr x H H') (o : Off H x y.os) : InvAt K C H' z y lv s :=
  ⟨(f _ _ h.ins ⟨by decide +kernel, by decide +kernel⟩).1, (f.lst h.os o).1, h.lt.kt f.kt, h.few, h.has⟩
theorem InvAt.same {K : PySem.W.Frag} {C : Addr} {H H' : Hp} {z : Addr} {y : Iv} {lv : V} {s : IvS} (h : InvAt K C H z y lv s) (e : Same H H') : InvAt K C H' z y lv s := ⟨e _ _ h.ins, e _ _ h.os, h.lt.kt (KT.of e), h.few, h.has⟩
/-- the next request, or none: the end -/
def ivR (s : IvS) : Option Rq := match s.m[s.sent]?, s.l with
  | some to, some l => some (.send to l)
  | some _, none => none
  | none, _ => (s.m[s.ans]?).map fun o => .read (1 + (o : Int))
def ivA (s : IvS) (d : PyData) (n : Nat) : IvS :=
  if s.sent < s.m.length then { s with sent := s.sent + 1, num := some n }
  else if PyData.eqv d (.int ((s.l.map (·.t)).getD 0)) = true then { s with ans := s.ans + 1, num := some n }
  else { s with num := some n }
def spIvReq (K : PySem.W.Frag) (C Cs : Addr) : Sp := fun vs H Q _ => ∃ (z dz : Addr) (p f b : Int) (y : Iv) (lv : V) (s : IvS), vs = [.ref y.q] ∧ H z = some (.ins Cs dz (szF p f b)) ∧ InvAt K C H z y lv s ∧
  (∀ r, ivR s = some r → ∀ H' t, Same H H' → Dp K H' (.ref t) (rqD r) → Q (.ref t) H') ∧ (ivR s = none → ∀ t, H t = none → Q (.ref t) (upd H t (.tup [.str "end", natV s.num])))
def spIvAcc (K : PySem.W.Frag) (C : Addr) : Sp := fun vs H Q _ => ∃ (z : Addr) (y : Iv) (lv : V) (s : IvS) (t : Addr) (v : V) (d : PyData) (n : Nat), vs = [.ref y.q, .ref t] ∧ InvAt K C H z y lv s ∧ (∃ r, ivR s = some r) ∧ H t = some (.tup [v, .int (n : Int)]) ∧ Dp K H v d ∧ noL d = true ∧ SeqAt.shaped d = true ∧
  ∀ u, InvAt K C (upd H y.q u) z y lv (ivA s d n) → Q .non (upd H y.q u)
def spIvInit (K : PySem.W.Frag) (C4 : Cl4) (C Ck : Addr) : Sp := fun vs H Q _ => ∃ (q dx k dk pl d o o2 o3 : Addr) (x : MX) (s : Ts) (tk : Nat) (ps : List (Int × Int)) (pv : List V), vs = [.ref q, .ref k, .int 0, .ref pl] ∧ H q = some (.ins C dx []) ∧ H k = some (.ins Ck dk (kerF x d o o2 o3 tk)) ∧ MemAt K C4 H x s.ms ∧
  H pl = some (.lst pv) ∧ DpAll K H pv (ps.map pD) ∧ ps.length ≤ 10 ∧ Off H x pl ∧
  (ps = [] → ∀ H' os, SameBut q H H' → H os = none → InvAt K C H' x.z ⟨q, dx, os⟩ .non ⟨[], 0, 0, none, none⟩ → Q .non H') ∧
  (ps ≠ [] → ∀ H' os lv, (∀ a u, H a = some u → Free H x a u → a ≠ q → a ≠ k → H' a = some u ∧ Free H' x a u) → KT H H' → H os = none → Off H' x os → H' k = some (.ins Ck dk (kerF x d o o2 o3 (tk + 1))) →
    MemAt K C4 H' x (Ts.ms ⟨s.n, s.cells, s.bufs.set 0 ((bufAt s 0).filter (keep ps)), s.boxes, s.log⟩) → InvAt K C H' x.z ⟨q, dx, os⟩ lv ⟨(List.range x.p.toNat).filter (fun n => decide (n ≠ 0)), 0, 0, none, some ⟨(tk + 1 : Nat), ps⟩⟩ → Q .non H')
def spIvInit2 (K : PySem.W.Frag) (C4 : Cl4) (C Ck : Addr) : Sp := fun vs H Q _ => ∃ (q dx k dk pl d o o2 o3 : Addr) (x : MX) (s : Ts) (tk : Nat) (ps : List (Int × Int)) (pv : List V), vs = [.ref q, .ref k, .int 0, .ref pl] ∧ H q = some (.ins C dx []) ∧ H k = some (.ins Ck dk (kerF x d o o2 o3 tk)) ∧ MemAt K C4 H x s.ms ∧
  H pl = some (.lst pv) ∧ DpAll K H pv (ps.map pD) ∧ ps.length ≤ 10 ∧ Off H x pl ∧
  ∀ H' os lv v s' tk', (∀ a u, H a = some u → Free H x a u → a ≠ q → a ≠ k → H' a = some u ∧ Free H' x a u) → KT H H' → H os = none → Off H' x os → H' k = some (.ins Ck dk (kerF x d o o2 o3 tk')) → MemAt K C4 H' x (Ts.ms s') → InvAt K C H' x.z ⟨q, dx, os⟩ lv v →
    ((ps = [] ∧ s' = s ∧ tk' = tk ∧ v = ⟨[], 0, 0, none, none⟩) ∨ (ps ≠ [] ∧ s' = ⟨s.n, s.cells, s.bufs.set 0 ((bufAt s 0).filter (keep ps)), s.boxes, s.log⟩ ∧ tk' = tk + 1 ∧ v = ⟨(List.range x.p.toNat).filter (fun n => decide (n ≠ 0)), 0, 0, none, some ⟨(tk + 1 : Nat), ps⟩⟩)) → Q .non H'
/-! ### the stack -/
def spSettle8 (K : PySem.W.Frag) (C : Cl3) (Ci Cs : Addr) : Sp := fun vs H Q _ => ∃ (y : Stk) (z dz : Addr) (p f b : Int) (i : Iv) (lv : V) (s : IvS) (w : V), vs = [.ref y.q] ∧ StkAt C H y [.ref i.q] w ∧ H z = some (.ins Cs dz (szF p f b)) ∧ InvAt K Ci H z i lv s ∧
  (∀ r, ivR s = some r → ∀ H' t, Same H H' → Dp K H' (.ref t) (rqD r) → Q (.ref t) H') ∧ (ivR s = none → ∀ H', Keep [y.q, y.l] H H' → KT H H' → StkAt C H' y [] (natV s.num) → Q .non H')
/-- a step: no access and the end; or an access, and the end or not -/
def spStep8 (K : PySem.W.Frag) (C4 : Cl4) (C : Cl3) (Ci : Addr) : Sp := fun vs H Q _ => ∃ (y : Stk) (i : Iv) (lv : V) (v : IvS) (w : V) (x : MX) (s : Ts), vs = [.ref y.q, .ref x.m, .int 0] ∧ MemAt K C4 H x s.ms ∧ TOk x s ∧ (∀ r, ivR v = some r → RqOk x s r) ∧ StkAt C H y [.ref i.q] w ∧ InvAt K Ci H x.z i lv v ∧ Off H x y.l ∧ Off H x i.os ∧ s.n ≤ 100000 ∧
  (ivR v = none → ∀ H', Keep [y.q, y.l] H H' → KT H H' → StkAt C H' y [] (natV v.num) → Q (.bl false) H') ∧
  (∀ r, ivR v = some r → ∀ H', (∀ a u, H a = some u → Free H x a u → a ∉ [y.q, y.l, i.q] → H' a = some u ∧ Free H' x a u) → KT H H' → MemAt K C4 H' x (tnext x.p s 0 r).ms →
    (ivR (ivA v (runR x.p s 0 r).val (s.n + 1)) ≠ none → StkAt C H' y [.ref i.q] w → InvAt K Ci H' x.z i lv (ivA v (runR x.p s 0 r).val (s.n + 1)) → Off H' x y.l → Off H' x i.os → Q (.bl true) H') ∧
    (ivR (ivA v (runR x.p s 0 r).val (s.n + 1)) = none → StkAt C H' y [] (natV (ivA v (runR x.p s 0 r).val (s.n + 1)).num) → Q (.bl true) H'))
end Iv
/-! What an invalidation does to buffers, boxes and acknowledgements: no heap here. -/
namespace Rn
open PySem PySem.Spec L2 Dk Ek Nk Wk Lk Fk Mk Pk Ak Sk Tr Iv
theorem eqv_int (a b : Int) : PyData.eqv (.int a) (.int b) = decide (V.int a = V.int b) := by
  simp only [PyData.eqv]
  exact decide_eq_decide.mpr ⟨fun h => by rw [h], fun h => by injection h⟩
theorem cellAt_set {l : List PyData} {i : Nat} {d : PyData} (h : i < l.length) (c : Int) : cellAt (l.set i d) c = if c.toNat = i then d else cellAt l c := by
  unfold cellAt
  rw [List.getElem?_set]
  by_cases e : i = c.toNat
  · rw [if_pos e, if_pos h, if_pos e.symm]; rfl
  · rw [if_neg e, if_neg (fun z => e z.symm)]
theorem getD_set {α : Type} {l : List (List α)} {p : Nat} {v : List α} (h : p < l.length) (q : Nat) : (l.set p v)[q]?.getD [] = if q = p then v else l[q]?.getD [] := by
  rw [List.getElem?_set]
  by_cases e : p = q
  · rw [if_pos e, if_pos h, if_pos e.symm]; rfl
  · rw [if_neg e, if_neg (fun z => e z.symm)]
theorem keep_iff (ps : List (Int × Int)) (e : En) : keep ps e = true ↔ (e.s, e.p) ∉ ps := by
  unfold keep
  simp only [Bool.not_eq_true', List.any_eq_false, decide_eq_true_eq]
  exact ⟨fun h m => h _ m rfl, fun h q hq z => h (z ▸ hq)⟩
theorem putM_mem {s p : Int} {x : Wd} {es : List En} {e : En} (h : e ∈ putM s p x es) : (e ∈ es ∧ (e.s, e.p) ≠ (s, p)) ∨ ∃ f w, x = .frame f w ∧ e = ⟨s, p, f, w⟩ := by
  have k : e ∈ es.filter (keep [(s, p)]) → e ∈ es ∧ (e.s, e.p) ≠ (s, p) := fun h => by
    obtain ⟨h1, h2⟩ := List.mem_filter.mp h
    have := (keep_iff _ _).mp h2
    exact ⟨h1, fun z => this (by rw [z]; exact List.mem_singleton.mpr rfl)⟩
  unfold putM at h
  cases x with
  | frame f w =>
    have h2 : e ∈ es.filter (keep [(s, p)]) ++ [⟨s, p, f, w⟩] := by
      have h : e ∈ last2 (es.filter (keep [(s, p)]) ++ [⟨s, p, f, w⟩]) := h
      unfold last2 at h
      split at h
      · exact List.mem_of_mem_drop h
      · exact h
    rcases List.mem_append.mp h2 with h3 | h3
    · exact .inl (k h3)
    · exact .inr ⟨f, w, rfl, List.mem_singleton.mp h3⟩
  | _ => exact .inl (k h)
def wOk (f : Int) (w : Wd) : Prop := ∀ g b, w = .frame g b → 0 ≤ g ∧ g < f
structure Good (x : MX) (s : Ts) : Prop where
  p1 : 1 ≤ x.p
  p3 : x.p ≤ 3
  f4 : x.f = 4
  b0 : 0 ≤ x.b
  tok : TOk x s
  wd : ∀ sp g, inS sp g → ∃ w, cellAt s.cells (wordC x.p sp g) = wD w ∧ wOk x.f w
  lc : (s.cells.length : Int) = cellsN x.p x.f x.b
  lb : (s.bufs.length : Int) = x.p
  lx : (s.boxes.length : Int) = x.p
/-- same but for the count and the log -/
theorem Good.as {x : MX} {s s' : Ts} (h : Good x s) (e1 : s'.cells = s.cells) (e2 : s'.bufs = s.bufs) (e3 : s'.boxes = s.boxes) : Good x s' := by
  obtain ⟨n, c, b, bx, lg⟩ := s
  obtain ⟨n', c', b', bx', lg'⟩ := s'
  cases e1
  cases e2
  cases e3
  exact ⟨h.p1, h.p3, h.f4, h.b0, ⟨h.tok.fr, h.tok.bx⟩, h.wd, h.lc, h.lb, h.lx⟩
theorem word_far {x : MX} {s : Ts} (h : Good x s) {sp g : Int} (i : inS sp g) {p : Nat} (hp : (p : Int) < x.p) : (wordC x.p sp g).toNat ≠ 1 + p := by
  have := i.1; have := i.2
  unfold wordC
  omega
theorem word_lt {x : MX} {s : Ts} (h : Good x s) {sp g : Int} (i : inS sp g) : 0 ≤ wordC x.p sp g ∧ wordC x.p sp g < cellsN x.p x.f x.b := by
  have := i.1; have := i.2; have := h.p1; have := h.f4; have := h.b0
  unfold wordC cellsN
  omega
theorem word_inj {x : MX} {s : Ts} (h : Good x s) {sp g sp2 g2 : Int} (i : inS sp g) (j : inS sp2 g2) (e : (wordC x.p sp g).toNat = (wordC x.p sp2 g2).toNat) : sp = sp2 ∧ g = g2 := by
  have := i.1; have := i.2; have := j.1; have := j.2; have := h.p1
  unfold wordC at e
  omega
/-- buffers and boxes are others, cells are others that are no table words -/
theorem Good.mk2 {x : MX} {s s' : Ts} (h : Good x s) (lc : s'.cells.length = s.cells.length) (lb : s'.bufs.length = s.bufs.length) (lx : s'.boxes.length = s.boxes.length) (w : ∀ sp g, inS sp g → cellAt s'.cells (wordC x.p sp g) = cellAt s.cells (wordC x.p sp g)) (t : TOk x s') : Good x s' :=
  ⟨h.p1, h.p3, h.f4, h.b0, t, fun sp g i => by rw [w sp g i]; exact h.wd sp g i, by rw [lc]; exact h.lc, by rw [lb]; exact h.lb, by rw [lx]; exact h.lx⟩
theorem buf_mem {s : Ts} {p : Nat} {e : En} (h : e ∈ bufAt s p) : ∃ es ∈ s.bufs, e ∈ es := by
  unfold bufAt at h
  cases k : s.bufs[p]? with
  | none => rw [k] at h; exact absurd h List.not_mem_nil
  | some es => rw [k] at h; exact ⟨es, mem_of_get k, h⟩
theorem box_mem {s : Ts} {p : Nat} (hp : p < s.boxes.length) : boxAt s p ∈ s.boxes := by
  unfold boxAt
  rw [List.getElem?_eq_getElem hp]
  exact List.getElem_mem _
theorem Good.walk {x : MX} {s : Ts} (h : Good x s) {p : Nat} (hp : (p : Int) < x.p) {sp g : Int} (i : inS sp g) : Good x (tnext x.p s p (.walk sp g)) := by
  refine h.mk2 rfl (List.length_set ..) rfl (fun _ _ _ => rfl) ⟨fun es hes e he => ?_, h.tok.bx⟩
  rcases List.mem_or_eq_of_mem_set hes with h1 | rfl
  · exact h.tok.fr es h1 e he
  · obtain ⟨w, ew, ok⟩ := h.wd sp g i
    rw [ew, putM_of] at he
    rcases putM_mem he with ⟨h1, _⟩ | ⟨f, b, e1, rfl⟩
    · obtain ⟨es, h2, h3⟩ := buf_mem h1
      exact h.tok.fr es h2 e h3
    · exact ok f b e1
theorem take_nil {P : Int} {s : Ts} {p : Nat} (e : boxAt s p = []) : tnext P s p .take = ⟨s.n + 1, s.cells, s.bufs, s.boxes, s.log ++ [logT (s.n + 1) p .take]⟩ := by
  unfold tnext runR
  dsimp only
  rw [e]
  rfl
theorem take_cons {P : Int} {s : Ts} {p : Nat} {l : Lt} {r : List Lt} (e : boxAt s p = l :: r) : tnext P s p .take = ⟨s.n + 1, s.cells.set (1 + p) (.int l.t), s.bufs.set p ((bufAt s p).filter (keep l.ps)), s.boxes.set p r, s.log ++ [logT (s.n + 1) p .take]⟩ := by
  unfold tnext runR
  dsimp only
  rw [e]
  rfl
theorem Good.take {x : MX} {s : Ts} (h : Good x s) {p : Nat} (hp : (p : Int) < x.p) : Good x (tnext x.p s p .take) := by
  have l1 : 1 + p < s.cells.length := by have := h.lc; have := h.f4; have := h.b0; unfold cellsN at *; omega
  cases e : boxAt s p with
  | nil => rw [take_nil e]; exact h.as rfl rfl rfl
  | cons l r =>
    rw [take_cons e]
    refine h.mk2 (List.length_set ..) (List.length_set ..) (List.length_set ..) (fun sp g i => ?_) ⟨fun es hes e2 he => ?_, fun ls hls => ?_⟩
    · show cellAt (s.cells.set (1 + p) (.int l.t)) _ = _
      rw [cellAt_set l1, if_neg (word_far h i hp)]
    · rcases List.mem_or_eq_of_mem_set hes with h1 | rfl
      · exact h.tok.fr es h1 e2 he
      · obtain ⟨es, h2, h3⟩ := buf_mem (List.mem_filter.mp he).1
        exact h.tok.fr es h2 e2 h3
    · rcases List.mem_or_eq_of_mem_set hls with h1 | rfl
      · exact h.tok.bx ls h1
      · have h2 := h.tok.bx _ (box_mem (s := s) (p := p) (by have := h.lx; omega))
        rw [e] at h2
        exact ⟨by have := h2.1; simp only [List.length_cons] at this; omega, fun l2 h3 => h2.2 l2 (List.mem_cons_of_mem _ h3)⟩
theorem Good.send {x : MX} {s : Ts} (h : Good x s) {to : Nat} (hp : (to : Int) < x.p) {l : Lt} (e : boxAt s to = []) (few : l.ps.length ≤ 10) (q : Nat) : Good x (tnext x.p s q (.send to l)) := by
  refine h.mk2 rfl rfl (List.length_set ..) (fun _ _ _ => rfl) ⟨h.tok.fr, fun ls hls => ?_⟩
  rcases List.mem_or_eq_of_mem_set hls with h1 | rfl
  · exact h.tok.bx ls h1
  · rw [e]
    exact ⟨by simp, fun l2 h3 => by rw [List.mem_singleton.mp h3]; exact few⟩
theorem Good.read {x : MX} {s : Ts} (h : Good x s) (c : Int) (q : Nat) : Good x (tnext x.p s q (.read c)) := h.as rfl rfl rfl
theorem Good.write {x : MX} {s : Ts} (h : Good x s) {sp g : Int} (i : inS sp g) {w : Wd} (ok : wOk x.f w) (q : Nat) : Good x (tnext x.p s q (.write (wordC x.p sp g) (wD w))) := by
  have l1 := word_lt h i
  have l2 : (wordC x.p sp g).toNat < s.cells.length := by have := h.lc; omega
  refine ⟨h.p1, h.p3, h.f4, h.b0, ⟨h.tok.fr, h.tok.bx⟩, fun sp2 g2 j => ?_, (by show ((s.cells.set _ _).length : Int) = _; rw [List.length_set]; exact h.lc), h.lb, h.lx⟩
  show ∃ w2, cellAt (s.cells.set (wordC x.p sp g).toNat (wD w)) (wordC x.p sp2 g2) = wD w2 ∧ _
  rw [cellAt_set l2]
  split
  · exact ⟨w, rfl, ok⟩
  · exact h.wd sp2 g2 j
/-! ### between invalidations -/
structure Bet (x : MX) (s : Ts) (tk : Nat) : Prop where
  good : Good x s
  box : ∀ p : Nat, (p : Int) < x.p → boxAt s p = []
  ack : ∀ p : Nat, 1 ≤ p → (p : Int) < x.p → ∃ a : Int, a ≤ (tk : Int) ∧ cellAt s.cells (1 + (p : Int)) = .int a
theorem Bet.walk {x : MX} {s : Ts} {tk : Nat} (h : Bet x s tk) {p : Nat} (hp : (p : Int) < x.p) {sp g : Int} (i : inS sp g) : Bet x (tnext x.p s p (.walk sp g)) tk := ⟨h.good.walk hp i, h.box, h.ack⟩
theorem Bet.take {x : MX} {s : Ts} {tk : Nat} (h : Bet x s tk) {p : Nat} (hp : (p : Int) < x.p) : Bet x (tnext x.p s p .take) tk := by
  have g := h.good.take hp
  have e := take_nil (P := x.p) (h.box p hp)
  rw [e] at g ⊢
  exact ⟨g, h.box, h.ack⟩
theorem Bet.write {x : MX} {s : Ts} {tk : Nat} (h : Bet x s tk) {sp g : Int} (i : inS sp g) {w : Wd} (ok : wOk x.f w) (q : Nat) : Bet x (tnext x.p s q (.write (wordC x.p sp g) (wD w))) tk := by
  have l1 := word_lt h.good i
  have l2 : (wordC x.p sp g).toNat < s.cells.length := by have := h.good.lc; omega
  refine ⟨h.good.write i ok q, h.box, fun p h1 h2 => ?_⟩
  show ∃ a : Int, a ≤ (tk : Int) ∧ cellAt (s.cells.set (wordC x.p sp g).toNat (wD w)) (1 + (p : Int)) = .int a
  rw [cellAt_set l2, if_neg (fun z => word_far h.good i h2 (by omega))]
  exact h.ack p h1 h2
/-! ### in an invalidation -/
def Ent (P : Int) (s : Ts) (p : Nat) (ps : List (Int × Int)) : Prop := ∀ e ∈ bufAt s p, (e.s, e.p) ∈ ps → cellAt s.cells (wordC P e.s e.p) = wD (.frame e.f e.w)
def Old (s : Ts) (p : Nat) (t : Int) : Prop := ∃ a : Int, a < t ∧ cellAt s.cells (1 + (p : Int)) = .int a
def Taken (P : Int) (s : Ts) (p : Nat) (L : Lt) : Prop := boxAt s p = [] ∧ cellAt s.cells (1 + (p : Int)) = .int L.t ∧ Ent P s p L.ps
structure RI (x : MX) (s : Ts) (v : IvS) (L : Lt) (M : Nat) (made : Nat) : Prop where
  good : Good x s
  m : v.m = (List.range M).map (· + 1)
  M2 : M ≤ 2
  MP : (M : Int) + 1 ≤ x.p
  l : M ≠ 0 → v.l = some L ∧ LtOk L ∧ (M : Int) + 1 = x.p
  z : M = 0 → (L.ps = [] ∨ x.p = 1)
  sent : v.sent ≤ M
  ans : v.ans ≤ M
  box0 : boxAt s 0 = []
  ent0 : Ent x.p s 0 L.ps
  un : ∀ p : Nat, 1 ≤ p → (p : Int) < x.p → v.sent < p → boxAt s p = [] ∧ Old s p L.t
  se : ∀ p : Nat, 1 ≤ p → p ≤ v.sent → (boxAt s p = [L] ∧ Old s p L.t) ∨ Taken x.p s p L
  tk : ∀ p : Nat, 1 ≤ p → p ≤ v.ans → Taken x.p s p L
  ma : v.sent + v.ans ≤ made
  mz : M = 0 → made = 0
theorem RI.get {x : MX} {s : Ts} {v : IvS} {L : Lt} {M made : Nat} (h : RI x s v L M made) (i : Nat) : v.m[i]? = if i < M then some (i + 1) else none := by
  rw [h.m, List.getElem?_map]
  by_cases e : i < M
  · rw [if_pos e, List.getElem?_range e]; rfl
  · rw [if_neg e, List.getElem?_eq_none (by rw [List.length_range]; omega)]; rfl
theorem RI.len {x : MX} {s : Ts} {v : IvS} {L : Lt} {M made : Nat} (h : RI x s v L M made) : v.m.length = M := by rw [h.m, List.length_map, List.length_range]
/-- what it asks for -/
theorem RI.req {x : MX} {s : Ts} {v : IvS} {L : Lt} {M made : Nat} (h : RI x s v L M made) {r : Rq} (e : ivR v = some r) : M ≠ 0 ∧ v.l = some L ∧ ((v.sent < M ∧ r = .send (v.sent + 1) L) ∨ (v.sent = M ∧ v.ans < M ∧ r = .read (1 + ((v.ans + 1 : Nat) : Int)))) := by
  have M0 : M ≠ 0 := fun z => by
    unfold ivR at e
    rw [h.get, h.get, if_neg (by omega), if_neg (by omega)] at e
    cases e
  obtain ⟨el, _, _⟩ := h.l M0
  refine ⟨M0, el, ?_⟩
  unfold ivR at e
  rw [h.get, h.get, el] at e
  by_cases c : v.sent < M
  · rw [if_pos c] at e
    injection e with e
    exact .inl ⟨c, e.symm⟩
  · rw [if_neg c] at e
    by_cases c2 : v.ans < M
    · rw [if_pos c2] at e
      injection e with e
      exact .inr ⟨by have := h.sent; omega, c2, e.symm⟩
    · rw [if_neg c2] at e
      cases e
theorem RI.rok {x : MX} {s : Ts} {v : IvS} {L : Lt} {M made : Nat} (h : RI x s v L M made) {r : Rq} (e : ivR v = some r) : RqOk x s r := by
  obtain ⟨M0, el, h2⟩ := h.req e
  obtain ⟨_, lo, _⟩ := h.l M0
  have := h.MP
  rcases h2 with ⟨c, rfl⟩ | ⟨c, c2, rfl⟩
  · exact ⟨by omega, lo⟩
  · have := h.good.f4
    have := h.good.b0
    exact ⟨by omega, by unfold cellsN; omega⟩
theorem RI.none {x : MX} {s : Ts} {v : IvS} {L : Lt} {M made : Nat} (h : RI x s v L M made) (e : ivR v = none) : v.sent = M ∧ v.ans = M := by
  have := h.sent
  have := h.ans
  unfold ivR at e
  rw [h.get, h.get] at e
  by_cases c : v.sent < M
  · rw [if_pos c, (h.l (by omega)).1] at e
    cases e
  · rw [if_neg c] at e
    by_cases c2 : v.ans < M
    · rw [if_pos c2] at e
      cases e
    · omega
theorem RI.step {x : MX} {s : Ts} {v : IvS} {L : Lt} {M made : Nat} (h : RI x s v L M made) {r : Rq} (e : ivR v = some r) :
    RI x (tnext x.p s 0 r) (ivA v (runR x.p s 0 r).val (s.n + 1)) L M (made + 1) ∧ (ivA v (runR x.p s 0 r).val (s.n + 1)).num = some (s.n + 1) ∧
    min M (v.sent + 1) ≤ (ivA v (runR x.p s 0 r).val (s.n + 1)).sent ∧ v.ans ≤ (ivA v (runR x.p s 0 r).val (s.n + 1)).ans ∧
    (v.sent = M → (∀ p : Nat, 1 ≤ p → p ≤ M → Taken x.p s p L) → min M (v.ans + 1) ≤ (ivA v (runR x.p s 0 r).val (s.n + 1)).ans) ∧
    (∀ p : Nat, Taken x.p s p L → p ≤ v.sent → Taken x.p (tnext x.p s 0 r) p L) := by
  obtain ⟨M0, el, h2⟩ := h.req e
  obtain ⟨_, lo, eP⟩ := h.l M0
  have hl := h.len
  rcases h2 with ⟨c, rfl⟩ | ⟨c, c2, rfl⟩
  · have eA : ivA v (runR x.p s 0 (.send (v.sent + 1) L)).val (s.n + 1) = ⟨v.m, v.sent + 1, v.ans, some (s.n + 1), v.l⟩ := by
      unfold ivA
      rw [if_pos (by omega)]
    rw [eA]
    have hto : v.sent + 1 < s.boxes.length := by have := h.good.lx; omega
    obtain ⟨b0, old⟩ := h.un (v.sent + 1) (by omega) (by omega) (by omega)
    have bx : ∀ q : Nat, boxAt (tnext x.p s 0 (.send (v.sent + 1) L)) q = if q = v.sent + 1 then [L] else boxAt s q := fun q => by
      show (s.boxes.set (v.sent + 1) (boxAt s (v.sent + 1) ++ [L]))[q]?.getD [] = _
      rw [getD_set hto, b0]
      rfl
    have tk' : ∀ p : Nat, p ≤ v.sent → Taken x.p s p L → Taken x.p (tnext x.p s 0 (.send (v.sent + 1) L)) p L := fun p hp t => ⟨by rw [bx, if_neg (by omega)]; exact t.1, t.2.1, t.2.2⟩
    refine ⟨⟨h.good.send (by omega) b0 lo.few 0, h.m, h.M2, h.MP, h.l, h.z, c, h.ans, by rw [bx, if_neg (by omega)]; exact h.box0, h.ent0, fun p h1 h3 h4 => ?_, fun p h1 h3 => ?_, fun p h1 h3 => ?_, by have := h.ma; show v.sent + 1 + v.ans ≤ _; omega, fun z => absurd z M0⟩, rfl, Nat.min_le_right _ _, Nat.le_refl _, fun z => absurd z (by omega), fun p t hp => tk' p hp t⟩
    · obtain ⟨k1, k2⟩ := h.un p h1 h3 (by have : v.sent + 1 < p := h4; omega)
      exact ⟨by rw [bx, if_neg (by have : v.sent + 1 < p := h4; omega)]; exact k1, k2⟩
    · have h3 : p ≤ v.sent + 1 := h3
      by_cases ep : p = v.sent + 1
      · subst ep
        exact .inl ⟨by rw [bx, if_pos rfl], old⟩
      · rcases h.se p h1 (by omega) with ⟨k1, k2⟩ | k
        · exact .inl ⟨by rw [bx, if_neg ep]; exact k1, k2⟩
        · exact .inr (tk' p (by omega) k)
    · have t := h.tk p h1 h3
      refine ⟨?_, t.2.1, t.2.2⟩
      rw [bx]
      by_cases ep : p = v.sent + 1
      · exfalso
        obtain ⟨a, a1, a2⟩ := old
        rw [← ep, t.2.1] at a2
        injection a2 with a2
        omega
      · rw [if_neg ep]; exact t.1
  · have old : ∀ {q : PyData}, (runR x.p s 0 (.read (1 + ((v.ans + 1 : Nat) : Int)))).val = q → cellAt s.cells (1 + ((v.ans + 1 : Nat) : Int)) = q := fun h => h
    have gd := h.good.read (1 + ((v.ans + 1 : Nat) : Int)) 0
    have mk : ∀ a : Nat, v.ans ≤ a → a ≤ v.ans + 1 → a ≤ M → (∀ p : Nat, 1 ≤ p → p ≤ a → Taken x.p s p L) → RI x (tnext x.p s 0 (.read (1 + ((v.ans + 1 : Nat) : Int)))) ⟨v.m, v.sent, a, some (s.n + 1), v.l⟩ L M (made + 1) := fun a a0 a1 a2 ht =>
      ⟨gd, h.m, h.M2, h.MP, h.l, h.z, h.sent, a2, h.box0, h.ent0, h.un, h.se, ht, by have := h.ma; show v.sent + a ≤ _; omega, fun z => absurd z M0⟩
    have tkn : v.ans + 1 ≤ v.sent := by omega
    cases eq : PyData.eqv (runR x.p s 0 (.read (1 + ((v.ans + 1 : Nat) : Int)))).val (.int L.t) with
    | true =>
      have eA : ivA v (runR x.p s 0 (.read (1 + ((v.ans + 1 : Nat) : Int)))).val (s.n + 1) = ⟨v.m, v.sent, v.ans + 1, some (s.n + 1), v.l⟩ := by
        unfold ivA
        rw [if_neg (by omega), el]
        exact if_pos eq
      rw [eA]
      refine ⟨mk (v.ans + 1) (by omega) (by omega) (by omega) fun p h1 h3 => ?_, rfl, by show min M (v.sent + 1) ≤ v.sent; omega, by show v.ans ≤ v.ans + 1; omega, fun _ _ => Nat.min_le_right _ _, fun p t _ => t⟩
      by_cases ep : p = v.ans + 1
      · subst ep
        rcases h.se (v.ans + 1) (by omega) tkn with ⟨_, a, a1, a2⟩ | k
        · exfalso
          have e3 : (runR x.p s 0 (.read (1 + ((v.ans + 1 : Nat) : Int)))).val = .int a := a2
          rw [e3, eqv_int] at eq
          have := of_decide_eq_true eq
          injection this with this
          omega
        · exact k
      · exact h.tk p h1 (by omega)
    | false =>
      have eA : ivA v (runR x.p s 0 (.read (1 + ((v.ans + 1 : Nat) : Int)))).val (s.n + 1) = ⟨v.m, v.sent, v.ans, some (s.n + 1), v.l⟩ := by
        unfold ivA
        rw [if_neg (by omega), el]
        exact if_neg (by show ¬ PyData.eqv _ (.int L.t) = true; rw [eq]; simp)
      rw [eA]
      refine ⟨mk v.ans (by omega) (by omega) (by omega) h.tk, rfl, by show min M (v.sent + 1) ≤ v.sent; omega, Nat.le_refl _, fun _ al => ?_, fun p t _ => t⟩
      exfalso
      have t := (al (v.ans + 1) (by omega) (by omega)).2.1
      have e3 : (runR x.p s 0 (.read (1 + ((v.ans + 1 : Nat) : Int)))).val = .int L.t := t
      rw [e3, eqv_int] at eq
      simp at eq
theorem Ent.mono {P : Int} {s s' : Ts} {p : Nat} {ps : List (Int × Int)} (h : Ent P s p ps) (e1 : ∀ e ∈ bufAt s' p, e ∈ bufAt s p) (e2 : ∀ e ∈ bufAt s p, cellAt s'.cells (wordC P e.s e.p) = cellAt s.cells (wordC P e.s e.p)) : Ent P s' p ps := fun e he hp => by
  rw [e2 e (e1 e he)]
  exact h e (e1 e he) hp
theorem RI.walk {x : MX} {s : Ts} {v : IvS} {L : Lt} {M made : Nat} (h : RI x s v L M made) {p : Nat} (p1 : 1 ≤ p) (hp : (p : Int) < x.p) {sp g : Int} (i : inS sp g) :
    RI x (tnext x.p s p (.walk sp g)) v L M made ∧ ∀ q : Nat, Taken x.p s q L → Taken x.p (tnext x.p s p (.walk sp g)) q L := by
  have hb : p < s.bufs.length := by have := h.good.lb; omega
  obtain ⟨w, ew, ok⟩ := h.good.wd sp g i
  have bu : ∀ q : Nat, bufAt (tnext x.p s p (.walk sp g)) q = if q = p then putM sp g w (bufAt s p) else bufAt s q := fun q => by
    show (s.bufs.set p (putM sp g (wdOf (cellAt s.cells (wordC x.p sp g))) (bufAt s p)))[q]?.getD [] = _
    rw [getD_set hb, ew, putM_of]
    rfl
  have en : ∀ q : Nat, Ent x.p s q L.ps → Ent x.p (tnext x.p s p (.walk sp g)) q L.ps := fun q h e he hps => by
    show cellAt s.cells _ = _
    rw [bu] at he
    by_cases eq : q = p
    · rw [if_pos eq] at he
      rcases putM_mem he with ⟨h1, _⟩ | ⟨f, b, e1, rfl⟩
      · exact h e (by rw [eq]; exact h1) hps
      · show cellAt s.cells (wordC x.p sp g) = wD (.frame f b)
        rw [ew, e1]
    · rw [if_neg eq] at he
      exact h e he hps
  have tk : ∀ q : Nat, Taken x.p s q L → Taken x.p (tnext x.p s p (.walk sp g)) q L := fun q t => ⟨t.1, t.2.1, en q t.2.2⟩
  refine ⟨⟨h.good.walk hp i, h.m, h.M2, h.MP, h.l, h.z, h.sent, h.ans, h.box0, en 0 h.ent0, h.un, fun q h1 h2 => ?_, fun q h1 h2 => tk q (h.tk q h1 h2), h.ma, h.mz⟩, tk⟩
  rcases h.se q h1 h2 with k | k
  · exact .inl k
  · exact .inr (tk q k)
theorem RI.take {x : MX} {s : Ts} {v : IvS} {L : Lt} {M made : Nat} (h : RI x s v L M made) {p : Nat} (p1 : 1 ≤ p) (hp : (p : Int) < x.p) :
    RI x (tnext x.p s p .take) v L M made ∧ (∀ q : Nat, Taken x.p s q L → Taken x.p (tnext x.p s p .take) q L) ∧ (p ≤ v.sent → Taken x.p (tnext x.p s p .take) p L) := by
  have gd := h.good.take hp
  cases e : boxAt s p with
  | nil =>
    rw [take_nil e] at gd ⊢
    refine ⟨⟨gd, h.m, h.M2, h.MP, h.l, h.z, h.sent, h.ans, h.box0, h.ent0, h.un, h.se, h.tk, h.ma, h.mz⟩, fun q t => t, fun hs => ?_⟩
    rcases h.se p p1 hs with ⟨k, _⟩ | k
    · rw [e] at k
      cases k
    · exact k
  | cons l r =>
    have hs : p ≤ v.sent := by
      by_cases c : v.sent < p
      · have := (h.un p p1 hp c).1
        rw [e] at this
        cases this
      · omega
    obtain ⟨rfl, rfl⟩ : l = L ∧ r = [] := by
      rcases h.se p p1 hs with ⟨k, _⟩ | k
      · rw [e] at k
        injection k with k1 k2
        exact ⟨k1, k2⟩
      · have := k.1
        rw [e] at this
        cases this
    rw [take_cons e] at gd ⊢
    have l1 : 1 + p < s.cells.length := by have := h.good.lc; have := h.good.f4; have := h.good.b0; unfold cellsN at *; omega
    have hb : p < s.bufs.length := by have := h.good.lb; omega
    have hx : p < s.boxes.length := by have := h.good.lx; omega
    obtain ⟨s', es⟩ : ∃ s' : Ts, s' = ⟨s.n + 1, s.cells.set (1 + p) (.int l.t), s.bufs.set p ((bufAt s p).filter (keep l.ps)), s.boxes.set p [], s.log ++ [logT (s.n + 1) p .take]⟩ := ⟨_, rfl⟩
    rw [← es] at gd ⊢
    have bu : ∀ q : Nat, bufAt s' q = if q = p then (bufAt s p).filter (keep l.ps) else bufAt s q := fun q => by
      rw [es]
      exact getD_set hb q
    have bx : ∀ q : Nat, boxAt s' q = if q = p then [] else boxAt s q := fun q => by
      rw [es]
      exact getD_set hx q
    have ce : ∀ q : Nat, cellAt s'.cells (1 + (q : Int)) = if q = p then .int l.t else cellAt s.cells (1 + (q : Int)) := fun q => by
      rw [es]
      show cellAt (s.cells.set (1 + p) (.int l.t)) _ = _
      rw [cellAt_set l1]
      by_cases c : q = p
      · rw [if_pos c, if_pos (by omega)]
      · rw [if_neg c, if_neg (by omega)]
    have cw : ∀ sp g : Int, wordC x.p sp g ≠ 1 + (p : Int) → cellAt s'.cells (wordC x.p sp g) = cellAt s.cells (wordC x.p sp g) ∨ wordC x.p sp g < 0 := fun sp g n => by
      by_cases c : wordC x.p sp g < 0
      · exact .inr c
      · left
        rw [es]
        show cellAt (s.cells.set (1 + p) (.int l.t)) _ = _
        rw [cellAt_set l1, if_neg (by omega)]
    have tp : Taken x.p s' p l := ⟨by rw [bx, if_pos rfl], by rw [ce, if_pos rfl], fun e2 he hps => by
      rw [bu, if_pos rfl] at he
      exact absurd hps ((keep_iff _ _).mp (List.mem_filter.mp he).2)⟩
    -- words of pairs
    have M0 : M ≠ 0 := by have := h.sent; omega
    have lo := (h.l M0).2.1
    have en : ∀ q : Nat, q ≠ p → Ent x.p s q l.ps → Ent x.p s' q l.ps := fun q n hq e2 he hps => by
      rw [bu, if_neg n] at he
      have i := lo.ok _ hps
      have e3 := hq e2 he hps
      rw [es]
      show cellAt (s.cells.set (1 + p) (.int l.t)) _ = _
      rw [cellAt_set l1, if_neg (word_far h.good i hp)]
      exact e3
    have tk : ∀ q : Nat, Taken x.p s q l → Taken x.p s' q l := fun q t => by
      by_cases c : q = p
      · rw [c]; exact tp
      · exact ⟨by rw [bx, if_neg c]; exact t.1, by rw [ce, if_neg c]; exact t.2.1, en q c t.2.2⟩
    refine ⟨⟨gd, h.m, h.M2, h.MP, h.l, h.z, h.sent, h.ans, by rw [bx, if_neg (by omega)]; exact h.box0, en 0 (by omega) h.ent0, fun q h1 h2 h3 => ?_, fun q h1 h2 => ?_, fun q h1 h2 => tk q (h.tk q h1 h2), h.ma, h.mz⟩, tk, fun _ => tp⟩
    · have c : q ≠ p := by omega
      obtain ⟨k1, a, k2, k3⟩ := h.un q h1 h2 h3
      exact ⟨by rw [bx, if_neg c]; exact k1, a, k2, by rw [ce, if_neg c]; exact k3⟩
    · by_cases c : q = p
      · rw [c]; exact .inr tp
      · rcases h.se q h1 h2 with ⟨k1, a, k2, k3⟩ | k
        · exact .inl ⟨by rw [bx, if_neg c]; exact k1, a, k2, by rw [ce, if_neg c]; exact k3⟩
        · exact .inr (tk q k)
/-! ### it starts -/
theorem ri_none {x : MX} {s : Ts} {tk : Nat} (b : Bet x s tk) : RI x s ⟨[], 0, 0, none, none⟩ ⟨((tk + 1 : Nat) : Int), []⟩ 0 0 :=
  ⟨b.good, rfl, by omega, by have := b.good.p1; omega, fun h => absurd rfl h, fun _ => .inl rfl, Nat.le_refl _, Nat.le_refl _, b.box 0 (by have := b.good.p1; omega), fun _ _ h => absurd h List.not_mem_nil, fun p h1 h2 _ => ⟨b.box p h2, by
    obtain ⟨a, a1, a2⟩ := b.ack p h1 h2
    exact ⟨a, by show a < ((tk + 1 : Nat) : Int); omega, a2⟩⟩, fun p h1 h2 => absurd h2 (by show ¬ p ≤ 0; omega), fun p h1 h2 => absurd h2 (by show ¬ p ≤ 0; omega), Nat.le_refl _, fun _ => rfl⟩
theorem range_ne (n : Nat) (h1 : 1 ≤ n) (h3 : n ≤ 3) : (List.range n).filter (fun n => decide (n ≠ 0)) = (List.range (n - 1)).map (· + 1) := by
  rcases (by omega : n = 1 ∨ n = 2 ∨ n = 3) with rfl | rfl | rfl <;> rfl
theorem ri_some {x : MX} {s : Ts} {tk : Nat} (b : Bet x s tk) {ps : List (Int × Int)} (hp : ps ≠ []) (few : ps.length ≤ 10) (ok : ∀ q ∈ ps, (0 ≤ q.1 ∧ q.1 < 4) ∧ (0 ≤ q.2 ∧ q.2 < 8)) :
    RI x ⟨s.n, s.cells, s.bufs.set 0 ((bufAt s 0).filter (keep ps)), s.boxes, s.log⟩ ⟨(List.range x.p.toNat).filter (fun n => decide (n ≠ 0)), 0, 0, none, some ⟨((tk + 1 : Nat) : Int), ps⟩⟩ ⟨((tk + 1 : Nat) : Int), ps⟩ (x.p.toNat - 1) 0 := by
  have p1 := b.good.p1
  have p3 := b.good.p3
  have hb : 0 < s.bufs.length := by have := b.good.lb; omega
  have e0 : bufAt ⟨s.n, s.cells, s.bufs.set 0 ((bufAt s 0).filter (keep ps)), s.boxes, s.log⟩ 0 = (bufAt s 0).filter (keep ps) := by
    have := getD_set (v := (bufAt s 0).filter (keep ps)) hb 0
    rw [if_pos rfl] at this
    exact this
  refine ⟨b.good.mk2 rfl (List.length_set ..) rfl (fun _ _ _ => rfl) ⟨fun es hes e he => ?_, b.good.tok.bx⟩, range_ne _ (by omega) (by omega), by omega, by omega, fun _ => ⟨rfl, ⟨by show (1 : Int) ≤ ((tk + 1 : Nat) : Int); omega, hp, few, ok⟩, by omega⟩, fun z => .inr (by omega), Nat.zero_le _, Nat.zero_le _, b.box 0 (by omega), fun e he hps => ?_, fun p h1 h2 _ => ⟨b.box p h2, by
    obtain ⟨a, a1, a2⟩ := b.ack p h1 h2
    exact ⟨a, by show a < ((tk + 1 : Nat) : Int); omega, a2⟩⟩, fun p h1 h2 => absurd h2 (by show ¬ p ≤ 0; omega), fun p h1 h2 => absurd h2 (by show ¬ p ≤ 0; omega), Nat.le_refl _, fun _ => rfl⟩
  · rcases List.mem_or_eq_of_mem_set hes with h1 | rfl
    · exact b.good.tok.fr es h1 e he
    · obtain ⟨es, h2, h3⟩ := buf_mem (List.mem_filter.mp he).1
      exact b.good.tok.fr es h2 e h3
  · rw [e0] at he
    exact absurd hps ((keep_iff _ _).mp (List.mem_filter.mp he).2)
end Rn
/-! ### promises of the law's own -/
namespace Rn
open PySem PySem.Spec L2 Dk Ek Nk Wk Lk Fk Mk Pk Ak Sk Tr Iv
def FrB (L : List Addr) (x : MX) (H H' : Hp) : Prop := ∀ c u, H c = some u → Free H x c u → c ∉ L → H' c = some u ∧ Free H' x c u
theorem FrB.refl (L : List Addr) (x : MX) (H : Hp) : FrB L x H H := fun _ _ h f _ => ⟨h, f⟩
theorem FrB.trans {L : List Addr} {x : MX} {H H1 H2 : Hp} (a : FrB L x H H1) (b : FrB L x H1 H2) : FrB L x H H2 := fun c u h f n => b c u (a c u h f n).1 (a c u h f n).2 n
theorem FrB.of {L : List Addr} {x : MX} {H H1 : Hp} (a : Fr x H H1) : FrB L x H H1 := fun c u h f _ => a c u h f
theorem FrB.lst {L : List Addr} {x : MX} {H H1 : Hp} (a : FrB L x H H1) {q : Addr} {vs : List V} (h : H q = some (.lst vs)) (o : Off H x q) (n : q ∉ L) : H1 q = some (.lst vs) ∧ Off H1 x q := a q _ h o n
def spWordL (K : PySem.W.Frag) : Sp := fun vs H Q _ => ∃ (n : Int), vs = [.int n] ∧ 0 ≤ n ∧ ∀ H' v w, Same H H' → Dp K H' v (wD w) → wOk 4 w → Q v H'
def othR (P : Int) (s : Ts) (p : Nat) (s' : Ts) : Prop := (∃ sp g, inS sp g ∧ s' = tnext P s p (.walk sp g)) ∨ s' = tnext P s p .take ∨ s' = s
def spOther (K : PySem.W.Frag) (C : Cl4) : Sp := fun vs H Q _ => ∃ (x : MX) (s : Ts) (p : Nat) (n : Int), vs = [.ref x.m, .int (p : Int), .int n] ∧ MemAt K C H x s.ms ∧ Good x s ∧ (p : Int) < x.p ∧ s.n ≤ 100000 ∧ 0 ≤ n ∧
  ∀ H' s', Fr x H H' → MemAt K C H' x s'.ms → othR x.p s p s' → Q .non H'
theorem oth_n {P : Int} {s s' : Ts} {p : Nat} (h : othR P s p s') : s'.n ≤ s.n + 1 := by
  rcases h with ⟨_, _, _, rfl⟩ | rfl | rfl
  · exact Nat.le_refl _
  · exact Nat.le_refl _
  · exact Nat.le_succ _
theorem Bet.oth {x : MX} {s s' : Ts} {tk : Nat} (b : Bet x s tk) {p : Nat} (hp : (p : Int) < x.p) (h : othR x.p s p s') : Bet x s' tk := by
  rcases h with ⟨_, _, i, rfl⟩ | rfl | rfl
  · exact b.walk hp i
  · exact b.take hp
  · exact b
theorem RI.oth {x : MX} {s s' : Ts} {v : IvS} {L : Lt} {M made : Nat} (b : RI x s v L M made) {p : Nat} (p1 : 1 ≤ p) (hp : (p : Int) < x.p) (h : othR x.p s p s') : RI x s' v L M made ∧ ∀ q : Nat, Taken x.p s q L → Taken x.p s' q L := by
  rcases h with ⟨_, _, i, rfl⟩ | rfl | rfl
  · exact b.walk p1 hp i
  · exact ⟨(b.take p1 hp).1, (b.take p1 hp).2.1⟩
  · exact ⟨b, fun _ t => t⟩
def spRun (K : PySem.W.Frag) (C4 : Cl4) (C : Cl3) (Ci : Addr) : Sp := fun vs H Q _ => ∃ (x : MX) (s : Ts) (y : Stk) (i : Iv.Iv) (lv : V) (v : IvS) (w : V) (L : Lt) (M : Nat) (tp : Addr) (ts : List Int) (pl : Int),
  vs = [.ref x.m, .ref y.q, .int x.p, .ref tp, .int pl] ∧ MemAt K C4 H x s.ms ∧ RI x s v L M 0 ∧ v.num = none ∧ StkAt C H y [.ref i.q] w ∧ InvAt K Ci H x.z i lv v ∧ Off H x y.l ∧ Off H x i.os ∧ H tp = some (.lst (ts.map V.int)) ∧ Off H x tp ∧ tp ∉ [y.q, y.l, i.q] ∧ i.os ∉ [y.q, y.l, i.q] ∧ (∀ t ∈ ts, 0 ≤ t ∧ t < 1000) ∧ 0 ≤ pl ∧ s.n ≤ 90000 ∧
  ∀ H' s' v' made t, FrB [y.q, y.l, i.q] x H H' → KT H H' → MemAt K C4 H' x s'.ms → RI x s' v' L M made → ivR v' = none → s'.n ≤ s.n + 800 → StkAt C H' y [] (natV v'.num) → H' t = some (.tup [natV v'.num, .int (made : Int)]) → Q (.ref t) H'
def pairs (K : PySem.W.Frag) (H : Hp) (x : MX) (pl : Addr) (ps : List (Int × Int)) : Prop := ∃ pv : List V, H pl = some (.lst pv) ∧ Off H x pl ∧ DpAll K H pv (ps.map pD)
def psOk (ps : List (Int × Int)) : Prop := ps.length ≤ 4 ∧ ∀ q ∈ ps, (0 ≤ q.1 ∧ q.1 < 4) ∧ (0 ≤ q.2 ∧ q.2 < 8)
def spChange (K : PySem.W.Frag) (C : Cl4) : Sp := fun vs H Q _ => ∃ (x : MX) (s : Ts) (tk : Nat) (tp : Addr) (ts : List Int) (pl : Int), vs = [.ref x.m, .ref tp, .int pl] ∧ MemAt K C H x s.ms ∧ Bet x s tk ∧ H tp = some (.lst (ts.map V.int)) ∧ Off H x tp ∧ (∀ t ∈ ts, 0 ≤ t ∧ t < 1000) ∧ 0 ≤ pl ∧ s.n ≤ 90000 ∧
  ∀ H' s' p ps, Fr x H H' → MemAt K C H' x s'.ms → Bet x s' tk → s'.n ≤ s.n + 4 → H p = none → pairs K H' x p ps → psOk ps → Q (.ref p) H'
def spEntries8 (K : PySem.W.Frag) (C : Cl4) : Sp := fun vs H Q _ => ∃ (x : MX) (s : Ts) (pl : Addr) (pv : List V) (ps : List (Int × Int)), vs = [.ref x.m, .int x.p, .ref pl] ∧ MemAt K C H x s.ms ∧ Good x s ∧ H pl = some (.lst pv) ∧ Off H x pl ∧ DpAll K H pv (ps.map pD) ∧ (∀ p : Nat, (p : Int) < x.p → boxAt s p = []) ∧
  (∀ p : Nat, (p : Int) < x.p → Ent x.p s p ps) ∧ psOk ps ∧ ∀ H', Same H H' → Q (.bl true) H'
def spMemInit8 (K : PySem.W.Frag) (C : Cl4) : Sp := fun vs H Q _ => ∃ (m dx z dz : Addr) (p f b : Int), vs = [.ref m, .ref z] ∧ H m = some (.ins C.Cm dx []) ∧ H z = some (.ins C.Cs dz (szF p f b)) ∧ okSz p f b = true ∧
  ∀ H' x, x.m = m → x.dx = dx → x.z = z → x.dz = dz → x.p = p → x.f = f → x.b = b → SameBut m H H' → (∀ a ∈ x.bl :: x.xl :: x.cl :: x.lg :: ((x.bs.map fun y => y.1) ++ x.xs.map fun y => y.2.2), H a = none) → MemAt K C H' x (initS p f b) → (∀ c u, H c = some u → c ≠ m → Off H' x c) → Q .non H'
theorem ri_of {x : MX} {s s' : Ts} {tk tk' : Nat} {v : IvS} {ps : List (Int × Int)} (b : Bet x s tk) (o : psOk ps) (h : (ps = [] ∧ s' = s ∧ tk' = tk ∧ v = ⟨[], 0, 0, none, none⟩) ∨ (ps ≠ [] ∧ s' = ⟨s.n, s.cells, s.bufs.set 0 ((bufAt s 0).filter (keep ps)), s.boxes, s.log⟩ ∧ tk' = tk + 1 ∧ v = ⟨(List.range x.p.toNat).filter (fun n => decide (n ≠ 0)), 0, 0, none, some ⟨(tk + 1 : Nat), ps⟩⟩)) :
    ∃ M, RI x s' v ⟨((tk + 1 : Nat) : Int), ps⟩ M 0 ∧ v.num = none ∧ s'.n = s.n ∧ tk ≤ tk' ∧ (ps = [] → M = 0 ∧ tk' = tk) ∧ (ps ≠ [] → (M : Int) = x.p - 1 ∧ tk' = tk + 1) := by
  have p1 := b.good.p1
  rcases h with ⟨rfl, rfl, rfl, rfl⟩ | ⟨hp, rfl, rfl, rfl⟩
  · exact ⟨0, ri_none b, rfl, rfl, Nat.le_refl _, fun _ => ⟨rfl, rfl⟩, fun h => absurd rfl h⟩
  · exact ⟨_, ri_some b hp (by have := o.1; omega) o.2, rfl, rfl, Nat.le_succ _, fun h => absurd h hp, fun _ => ⟨by omega, rfl⟩⟩
theorem ri_bet {x : MX} {s : Ts} {tk tk' : Nat} {v : IvS} {ps : List (Int × Int)} {M made : Nat} (R : RI x s v ⟨((tk + 1 : Nat) : Int), ps⟩ M made) (e : ivR v = none) (le : tk ≤ tk') (hn : ps = [] → M = 0 ∧ tk' = tk) (hs : ps ≠ [] → (M : Int) = x.p - 1 ∧ tk' = tk + 1) :
    Bet x s tk' ∧ (∀ p : Nat, (p : Int) < x.p → Ent x.p s p ps) ∧ (ps ≠ [] → ∀ p : Nat, 1 ≤ p → (p : Int) < x.p → cellAt s.cells (1 + (p : Int)) = .int (tk' : Int)) ∧ (ps ≠ [] → 2 * (x.p - 1) ≤ (made : Int)) ∧ ((ps = [] ∨ x.p = 1) → made = 0) := by
  obtain ⟨e1, e2⟩ := R.none e
  have M2 := R.M2
  have tkn : ∀ p : Nat, 1 ≤ p → p ≤ M → Taken x.p s p ⟨((tk + 1 : Nat) : Int), ps⟩ := fun p h1 h2 => R.tk p h1 (by omega)
  refine ⟨⟨R.good, fun p hp => ?_, fun p h1 hp => ?_⟩, fun p hp => ?_, fun hps p h1 hp => ?_, fun hps => ?_, fun h => ?_⟩
  · by_cases p0 : p = 0
    · rw [p0]; exact R.box0
    · by_cases pM : p ≤ M
      · exact (tkn p (by omega) pM).1
      · exact (R.un p (by omega) hp (by omega)).1
  · by_cases pM : p ≤ M
    · have t := (tkn p h1 pM).2.1
      have hps : ps ≠ [] := fun h => by have := (hn h).1; omega
      exact ⟨_, by have := (hs hps).2; show ((tk + 1 : Nat) : Int) ≤ _; omega, t⟩
    · obtain ⟨a, a1, a2⟩ := (R.un p h1 hp (by omega)).2
      exact ⟨a, by have : a < ((tk + 1 : Nat) : Int) := a1; omega, a2⟩
  · by_cases p0 : p = 0
    · rw [p0]; exact R.ent0
    · by_cases pM : p ≤ M
      · exact (tkn p (by omega) pM).2.2
      · by_cases hps : ps = []
        · rw [hps]; exact fun _ _ h => absurd h List.not_mem_nil
        · have := (hs hps).1
          omega
  · have := hs hps
    have t := (tkn p h1 (by omega)).2.1
    rw [t, this.2]
  · have := (hs hps).1
    have := R.ma
    omega
  · refine R.mz ?_
    rcases h with h | h
    · exact (hn h).1
    · have := R.MP
      omega
theorem first_low {p f b : Int} {i : Nat} (h : i < (1 + p).toNat) : (firstD p f b)[i]? = some (.int 0) := by
  unfold firstD
  rw [List.append_assoc, List.append_assoc, List.getElem?_append_left (by rw [List.length_replicate]; exact h), List.getElem?_replicate, if_pos h]
theorem first_word {p f b : Int} {i : Nat} (h : (1 + p).toNat ≤ i) (h2 : i < (1 + p).toNat + 32) : (firstD p f b)[i]? = some .none := by
  unfold firstD
  rw [List.append_assoc, List.append_assoc, List.getElem?_append_right (by rw [List.length_replicate]; exact h), List.length_replicate, List.getElem?_append_left (by rw [List.length_replicate]; omega), List.getElem?_replicate, if_pos (by omega)]
theorem bet_init {x : MX} {s : Ts} (p1 : 1 ≤ x.p ∧ x.p ≤ 3) (f4 : x.f = 4) (b0 : 0 ≤ x.b) (ec : s.cells = firstD x.p x.f x.b) (eb : s.bufs = List.replicate x.p.toNat []) (ex : s.boxes = List.replicate x.p.toNat []) (lc : (s.cells.length : Int) = cellsN x.p x.f x.b) : Bet x s 0 := by
  refine ⟨⟨p1.1, p1.2, f4, b0, ⟨fun es hes e he => ?_, fun ls hls => ?_⟩, fun sp g i => ?_, lc, by rw [eb, List.length_replicate]; omega, by rw [ex, List.length_replicate]; omega⟩, fun p hp => ?_, fun p h1 hp => ?_⟩
  · rw [eb] at hes
    rw [List.eq_of_mem_replicate hes] at he
    exact absurd he List.not_mem_nil
  · rw [ex] at hls
    rw [List.eq_of_mem_replicate hls]
    exact ⟨Nat.zero_le _, fun _ h => absurd h List.not_mem_nil⟩
  · refine ⟨.non, ?_, fun g b e => by cases e⟩
    have := i.1; have := i.2
    unfold cellAt
    rw [ec, first_word (by unfold wordC; omega) (by unfold wordC; omega)]
    rfl
  · unfold boxAt
    rw [ex, List.getElem?_replicate]
    split <;> rfl
  · refine ⟨0, by omega, ?_⟩
    unfold cellAt
    rw [ec, first_low (by omega)]
    rfl
theorem eqvAll_pD : ∀ ps : List (Int × Int), PyData.eqvAll (ps.map pD) (ps.map pD) = true
  | [] => by simp [PyData.eqvAll]
  | q :: r => by
    have := eqvAll_pD r
    simp [PyData.eqvAll, PyData.eqv, pD, this]
theorem eqv_pairs (ps : List (Int × Int)) : PyData.eqv (.list (ps.map pD)) (.list (ps.map pD)) = true := by
  simp only [PyData.eqv, eqvAll_pD]
def natD : Option Nat → PyData
  | none => .none
  | some n => .int (n : Int)
theorem dp_natD {K : PySem.W.Frag} {H : Hp} (n : Option Nat) : Dp K H (natV n) (natD n) := by
  cases n with
  | none => exact .non
  | some n => exact .int _
theorem natD_sh (n : Option Nat) : SeqAt.shaped (natD n) = true := by cases n <;> rfl
theorem natD_eqv (n : Option Nat) : PyData.eqv (natD n) (natD n) = true := by
  cases n with
  | none => rfl
  | some n =>
    show PyData.eqv (.int (n : Int)) (.int (n : Int)) = true
    rw [eqv_int]
    simp
structure LK (K : PySem.W.Frag) (C4 : Cl4) (Ck : Addr) (H : Hp) (x : MX) (s : Ts) (tk : Nat) (tp : Addr) (ts : List Int) (kA dk : Addr) : Prop where
  mem : MemAt K C4 H x s.ms
  bet : Bet x s tk
  tape : H tp = some (.lst (ts.map V.int))
  oT : Off H x tp
  ker : ∃ d o o2 o3, H kA = some (.ins Ck dk (kerF x d o o2 o3 tk))
theorem LK.fr {K : PySem.W.Frag} {C4 : Cl4} {Ck : Addr} {H H' : Hp} {x : MX} {s s' : Ts} {tk : Nat} {tp : Addr} {ts : List Int} {kA dk : Addr} (h : LK K C4 Ck H x s tk tp ts kA dk) (f : Fr x H H') (m : MemAt K C4 H' x s'.ms) (b : Bet x s' tk) : LK K C4 Ck H' x s' tk tp ts kA dk := by
  obtain ⟨d, o, o2, o3, hk⟩ := h.ker
  exact ⟨m, b, (f.lst h.tape h.oT).1, (f.lst h.tape h.oT).2, d, o, o2, o3, (f _ _ hk ⟨by decide +kernel, by decide +kernel⟩).1⟩
end Rn
namespace K08
open PySem L2 Dk Ek Nk Wk Lk Fk Mk Mc Pk Ak Sk Tr Iv Rn
def top (i : Nat) : Stmt := PySem.Challenge.pw_frametally_k08_whole_invalidations.main.body.getD i (.Pass ⟨0, 0, 0, 0⟩)
abbrev s_PageError_init : Stmt := inClass (top 2) 0
abbrev s_is_whole : Stmt := top 7
abbrev s_is_number_below : Stmt := top 8
abbrev s_is_tuple_of : Stmt := top 9
abbrev s_is_pair : Stmt := top 10
abbrev s_is_letter : Stmt := top 11
abbrev s_Box_init : Stmt := inClass (top 12) 0
abbrev s_Box_send : Stmt := inClass (top 12) 1
abbrev s_Box_take : Stmt := inClass (top 12) 2
abbrev s_Box_letters : Stmt := inClass (top 12) 3
abbrev s_asks_for : Stmt := top 14
abbrev s_Stack_init : Stmt := inClass (top 15) 0
abbrev s_Stack_step : Stmt := inClass (top 15) 1
abbrev s_Stack_ended : Stmt := inClass (top 15) 2
abbrev s_Stack_value : Stmt := inClass (top 15) 3
abbrev s_Stack__settled : Stmt := inClass (top 15) 4
abbrev s_Stack__end : Stmt := inClass (top 15) 5
abbrev s_Owners_init : Stmt := inClass (top 17) 0
abbrev s_Hand_init : Stmt := inClass (top 18) 0
abbrev s_Kernel_init : Stmt := inClass (top 20) 0
abbrev s_Kernel_next_ticket : Stmt := inClass (top 20) 3
abbrev s_Invalidating_init : Stmt := inClass (top 21) 0
abbrev s_Invalidating_request : Stmt := inClass (top 21) 1
abbrev s_Invalidating_accept : Stmt := inClass (top 21) 2
abbrev s_leads_to_frame : Stmt := top 24
abbrev s_Buffer_init : Stmt := inClass (top 25) 0
abbrev s_Buffer_put : Stmt := inClass (top 25) 1
abbrev s_Buffer_drop : Stmt := inClass (top 25) 3
abbrev s_Buffer_entries : Stmt := inClass (top 25) 4
abbrev s_is_between : Stmt := top 31
abbrev s_is_value : Stmt := top 32
abbrev s_Sizes_init : Stmt := inClass (top 33) 0
abbrev s_Sizes_acknowledge : Stmt := inClass (top 33) 2
abbrev s_Sizes_word : Stmt := inClass (top 33) 3
abbrev s_Sizes_cells : Stmt := inClass (top 33) 7
abbrev s_first_values : Stmt := top 34
abbrev s_bound_of : Stmt := top 35
abbrev s_is_part : Stmt := top 36
abbrev s_is_request : Stmt := top 37
abbrev s_Memory_init : Stmt := inClass (top 38) 0
abbrev s_Memory_access : Stmt := inClass (top 38) 1
abbrev s_Memory_peek : Stmt := inClass (top 38) 2
abbrev s_Memory__result : Stmt := inClass (top 38) 4
abbrev s_Memory__take : Stmt := inClass (top 38) 6
abbrev s_Memory__walk : Stmt := inClass (top 38) 7
abbrev s__law_tape : Stmt := top 40
abbrev s__law_at : Stmt := top 41
abbrev s__law_word : Stmt := top 42
abbrev s__law_other : Stmt := top 43
abbrev s__law_entries : Stmt := top 44
abbrev s__law_change : Stmt := top 45
abbrev s__law_run : Stmt := top 46
abbrev s_law : Stmt := top 47
theorem sc_PageError_init : FnScope ["self"] ["self"] (defScope s_PageError_init) := ⟨rfl, rfl, rfl, by decide +kernel, rfl, by decide +kernel, by decide +kernel⟩
theorem sc_is_whole : FnScope ["value"] ["value"] (defScope s_is_whole) := ⟨rfl, rfl, rfl, by decide +kernel, rfl, by decide +kernel, by decide +kernel⟩
theorem sc_is_number_below : FnScope ["value", "many"] ["value", "many"] (defScope s_is_number_below) := ⟨rfl, rfl, rfl, by decide +kernel, rfl, by decide +kernel, by decide +kernel⟩
theorem sc_is_tuple_of : FnScope ["value", "many"] ["value", "many"] (defScope s_is_tuple_of) := ⟨rfl, rfl, rfl, by decide +kernel, rfl, by decide +kernel, by decide +kernel⟩
theorem sc_is_pair : FnScope ["value", "space", "page"] ["value"] (defScope s_is_pair) := ⟨rfl, rfl, rfl, by decide +kernel, rfl, by decide +kernel, by decide +kernel⟩
theorem sc_is_letter : FnScope ["value", "ticket", "pairs", "pair"] ["value"] (defScope s_is_letter) := ⟨rfl, rfl, rfl, by decide +kernel, rfl, by decide +kernel, by decide +kernel⟩
theorem sc_Box_init : FnScope ["self"] ["self"] (defScope s_Box_init) := ⟨rfl, rfl, rfl, by decide +kernel, rfl, by decide +kernel, by decide +kernel⟩
theorem sc_Box_send : FnScope ["self", "letter"] ["self", "letter"] (defScope s_Box_send) := ⟨rfl, rfl, rfl, by decide +kernel, rfl, by decide +kernel, by decide +kernel⟩
theorem sc_Box_take : FnScope ["self"] ["self"] (defScope s_Box_take) := ⟨rfl, rfl, rfl, by decide +kernel, rfl, by decide +kernel, by decide +kernel⟩
theorem sc_Box_letters : FnScope ["self"] ["self"] (defScope s_Box_letters) := ⟨rfl, rfl, rfl, by decide +kernel, rfl, by decide +kernel, by decide +kernel⟩
theorem sc_asks_for : FnScope ["request", "name"] ["request", "name"] (defScope s_asks_for) := ⟨rfl, rfl, rfl, by decide +kernel, rfl, by decide +kernel, by decide +kernel⟩
theorem sc_Stack_init : FnScope ["self", "machine"] ["self", "machine"] (defScope s_Stack_init) := ⟨rfl, rfl, rfl, by decide +kernel, rfl, by decide +kernel, by decide +kernel⟩
theorem sc_Stack_step : FnScope ["self", "memory", "processor", "request", "outcome"] ["self", "memory", "processor"] (defScope s_Stack_step) := ⟨rfl, rfl, rfl, by decide +kernel, rfl, by decide +kernel, by decide +kernel⟩
theorem sc_Stack_ended : FnScope ["self"] ["self"] (defScope s_Stack_ended) := ⟨rfl, rfl, rfl, by decide +kernel, rfl, by decide +kernel, by decide +kernel⟩
theorem sc_Stack_value : FnScope ["self"] ["self"] (defScope s_Stack_value) := ⟨rfl, rfl, rfl, by decide +kernel, rfl, by decide +kernel, by decide +kernel⟩
theorem sc_Stack__settled : FnScope ["self", "request"] ["self"] (defScope s_Stack__settled) := ⟨rfl, rfl, rfl, by decide +kernel, rfl, by decide +kernel, by decide +kernel⟩
theorem sc_Stack__end : FnScope ["self", "value"] ["self", "value"] (defScope s_Stack__end) := ⟨rfl, rfl, rfl, by decide +kernel, rfl, by decide +kernel, by decide +kernel⟩
theorem sc_Owners_init : FnScope ["self", "many", "_"] ["self", "many"] (defScope s_Owners_init) := ⟨rfl, rfl, rfl, by decide +kernel, rfl, by decide +kernel, by decide +kernel⟩
theorem sc_Hand_init : FnScope ["self", "many"] ["self", "many"] (defScope s_Hand_init) := ⟨rfl, rfl, rfl, by decide +kernel, rfl, by decide +kernel, by decide +kernel⟩
theorem sc_Kernel_init : FnScope ["self", "memory"] ["self", "memory"] (defScope s_Kernel_init) := ⟨rfl, rfl, rfl, by decide +kernel, rfl, by decide +kernel, by decide +kernel⟩
theorem sc_Kernel_next_ticket : FnScope ["self"] ["self"] (defScope s_Kernel_next_ticket) := ⟨rfl, rfl, rfl, by decide +kernel, rfl, by decide +kernel, by decide +kernel⟩
theorem sc_Invalidating_init : FnScope ["self", "kernel", "processor", "pairs", "other"] ["self", "kernel", "processor", "pairs"] (defScope s_Invalidating_init) := ⟨rfl, rfl, rfl, by decide +kernel, rfl, by decide +kernel, by decide +kernel⟩
theorem sc_Invalidating_request : FnScope ["self"] ["self"] (defScope s_Invalidating_request) := ⟨rfl, rfl, rfl, by decide +kernel, rfl, by decide +kernel, by decide +kernel⟩
theorem sc_Invalidating_accept : FnScope ["self", "result", "value", "number"] ["self", "result"] (defScope s_Invalidating_accept) := ⟨rfl, rfl, rfl, by decide +kernel, rfl, by decide +kernel, by decide +kernel⟩
theorem sc_leads_to_frame : FnScope ["word"] ["word"] (defScope s_leads_to_frame) := ⟨rfl, rfl, rfl, by decide +kernel, rfl, by decide +kernel, by decide +kernel⟩
theorem sc_Buffer_init : FnScope ["self"] ["self"] (defScope s_Buffer_init) := ⟨rfl, rfl, rfl, by decide +kernel, rfl, by decide +kernel, by decide +kernel⟩
theorem sc_Buffer_put : FnScope ["self", "space", "page", "word"] ["self", "space", "page", "word"] (defScope s_Buffer_put) := ⟨rfl, rfl, rfl, by decide +kernel, rfl, by decide +kernel, by decide +kernel⟩
theorem sc_Buffer_drop : FnScope ["self", "pairs", "entry"] ["self", "pairs"] (defScope s_Buffer_drop) := ⟨rfl, rfl, rfl, by decide +kernel, rfl, by decide +kernel, by decide +kernel⟩
theorem sc_Buffer_entries : FnScope ["self"] ["self"] (defScope s_Buffer_entries) := ⟨rfl, rfl, rfl, by decide +kernel, rfl, by decide +kernel, by decide +kernel⟩
theorem sc_is_between : FnScope ["value", "least", "most"] ["value", "least", "most"] (defScope s_is_between) := ⟨rfl, rfl, rfl, by decide +kernel, rfl, by decide +kernel, by decide +kernel⟩
theorem sc_is_value : FnScope ["value"] ["value"] (defScope s_is_value) := ⟨rfl, rfl, rfl, by decide +kernel, rfl, by decide +kernel, by decide +kernel⟩
theorem sc_Sizes_init : FnScope ["self", "processors", "frames", "blocks"] ["self", "processors", "frames", "blocks"] (defScope s_Sizes_init) := ⟨rfl, rfl, rfl, by decide +kernel, rfl, by decide +kernel, by decide +kernel⟩
theorem sc_Sizes_acknowledge : FnScope ["self", "processor"] ["self", "processor"] (defScope s_Sizes_acknowledge) := ⟨rfl, rfl, rfl, by decide +kernel, rfl, by decide +kernel, by decide +kernel⟩
theorem sc_Sizes_word : FnScope ["self", "space", "page"] ["self", "space", "page"] (defScope s_Sizes_word) := ⟨rfl, rfl, rfl, by decide +kernel, rfl, by decide +kernel, by decide +kernel⟩
theorem sc_Sizes_cells : FnScope ["self"] ["self"] (defScope s_Sizes_cells) := ⟨rfl, rfl, rfl, by decide +kernel, rfl, by decide +kernel, by decide +kernel⟩
theorem sc_first_values : FnScope ["sizes", "lock_and_acknowledges", "words", "frames", "blocks"] ["sizes"] (defScope s_first_values) := ⟨rfl, rfl, rfl, by decide +kernel, rfl, by decide +kernel, by decide +kernel⟩
theorem sc_bound_of : FnScope ["kind", "sizes"] ["kind", "sizes"] (defScope s_bound_of) := ⟨rfl, rfl, rfl, by decide +kernel, rfl, by decide +kernel, by decide +kernel⟩
theorem sc_is_part : FnScope ["part", "kind", "sizes"] ["part", "kind", "sizes"] (defScope s_is_part) := ⟨rfl, rfl, rfl, by decide +kernel, rfl, by decide +kernel, by decide +kernel⟩
theorem sc_is_request : FnScope ["value", "sizes", "kinds", "part", "kind"] ["value", "sizes"] (defScope s_is_request) := ⟨rfl, rfl, rfl, by decide +kernel, rfl, by decide +kernel, by decide +kernel⟩
theorem sc_Memory_init : FnScope ["self", "sizes", "_"] ["self", "sizes"] (defScope s_Memory_init) := ⟨rfl, rfl, rfl, by decide +kernel, rfl, by decide +kernel, by decide +kernel⟩
theorem sc_Memory_access : FnScope ["self", "processor", "request"] ["self", "processor", "request"] (defScope s_Memory_access) := ⟨rfl, rfl, rfl, by decide +kernel, rfl, by decide +kernel, by decide +kernel⟩
theorem sc_Memory_peek : FnScope ["self", "cell"] ["self", "cell"] (defScope s_Memory_peek) := ⟨rfl, rfl, rfl, by decide +kernel, rfl, by decide +kernel, by decide +kernel⟩
theorem sc_Memory__result : FnScope ["self", "processor", "request", "cell", "value", "old", "new", "to", "letter", "space", "page", "index"] ["self", "processor", "request"] (defScope s_Memory__result) := ⟨rfl, rfl, rfl, by decide +kernel, rfl, by decide +kernel, by decide +kernel⟩
theorem sc_Memory__take : FnScope ["self", "processor", "letter", "ticket", "pairs"] ["self", "processor"] (defScope s_Memory__take) := ⟨rfl, rfl, rfl, by decide +kernel, rfl, by decide +kernel, by decide +kernel⟩
theorem sc_Memory__walk : FnScope ["self", "processor", "space", "page", "word"] ["self", "processor", "space", "page"] (defScope s_Memory__walk) := ⟨rfl, rfl, rfl, by decide +kernel, rfl, by decide +kernel, by decide +kernel⟩
theorem sc__law_tape : FnScope ["script", "tape", "k", "value", "step"] ["script"] (defScope s__law_tape) := ⟨rfl, rfl, rfl, by decide +kernel, rfl, by decide +kernel, by decide +kernel⟩
theorem sc__law_at : FnScope ["tape", "k"] ["tape", "k"] (defScope s__law_at) := ⟨rfl, rfl, rfl, by decide +kernel, rfl, by decide +kernel, by decide +kernel⟩
theorem sc__law_word : FnScope ["number"] ["number"] (defScope s__law_word) := ⟨rfl, rfl, rfl, by decide +kernel, rfl, by decide +kernel, by decide +kernel⟩
theorem sc__law_other : FnScope ["memory", "p", "number", "kind"] ["memory", "p", "number"] (defScope s__law_other) := ⟨rfl, rfl, rfl, by decide +kernel, rfl, by decide +kernel, by decide +kernel⟩
theorem sc__law_entries : FnScope ["memory", "many", "pairs", "p", "row", "word"] ["memory", "many", "pairs"] (defScope s__law_entries) := ⟨rfl, rfl, rfl, by decide +kernel, rfl, by decide +kernel, by decide +kernel⟩
theorem sc__law_change : FnScope ["memory", "tape", "place", "pairs", "k", "number", "pair"] ["memory", "tape", "place"] (defScope s__law_change) := ⟨rfl, rfl, rfl, by decide +kernel, rfl, by decide +kernel, by decide +kernel⟩
theorem sc__law_run : FnScope ["memory", "stack", "many", "tape", "place", "last", "made", "k", "number", "p", "moved"] ["memory", "stack", "many", "tape", "place"] (defScope s__law_run) := ⟨rfl, rfl, rfl, by decide +kernel, rfl, by decide +kernel, by decide +kernel⟩
theorem sc_law : FnScope ["script", "tape", "many", "memory", "kernel", "space", "page", "ticket", "turn", "k", "number", "pairs", "passed", "stack", "last", "made", "least", "p"] ["script"] (defScope s_law) := ⟨rfl, rfl, rfl, by decide +kernel, rfl, by decide +kernel, by decide +kernel⟩
structure Ad where
  (C_PageError C_NotValid C_Box C_Stack C_Owners C_Hand C_Kernel C_Invalidating C_Buffer C_Sizes C_Memory f_PageError_init f_is_whole f_is_number_below f_is_tuple_of f_is_pair f_is_letter f_Box_init f_Box_send f_Box_take f_Box_letters f_asks_for f_Stack_init f_Stack_step f_Stack_ended f_Stack_value f_Stack__settled f_Stack__end f_Owners_init f_Hand_init f_Kernel_init f_Kernel_next_ticket f_Invalidating_init f_Invalidating_request f_Invalidating_accept f_leads_to_frame f_Buffer_init f_Buffer_put f_Buffer_drop f_Buffer_entries f_is_between f_is_value f_Sizes_init f_Sizes_acknowledge f_Sizes_word f_Sizes_cells f_first_values f_bound_of f_is_part f_is_request f_Memory_init f_Memory_access f_Memory_peek f_Memory__result f_Memory__take f_Memory__walk f__law_tape f__law_at f__law_word f__law_other f__law_entries f__law_change f__law_run f_law : Addr)
  (d_PageError_init d_is_whole d_is_number_below d_is_tuple_of d_is_pair d_is_letter d_Box_init d_Box_send d_Box_take d_Box_letters d_asks_for d_Stack_init d_Stack_step d_Stack_ended d_Stack_value d_Stack__settled d_Stack__end d_Owners_init d_Hand_init d_Kernel_init d_Kernel_next_ticket d_Invalidating_init d_Invalidating_request d_Invalidating_accept d_leads_to_frame d_Buffer_init d_Buffer_put d_Buffer_drop d_Buffer_entries d_is_between d_is_value d_Sizes_init d_Sizes_acknowledge d_Sizes_word d_Sizes_cells d_first_values d_bound_of d_is_part d_is_request d_Memory_init d_Memory_access d_Memory_peek d_Memory__result d_Memory__take d_Memory__walk d__law_tape d__law_at d__law_word d__law_other d__law_entries d__law_change d__law_run d_law : FuncData)
structure Txt (w : World) (K : PySem.W.Frag) (mg : Str → Option Value) (a : Ad) : Prop where
  m_PageError : mg "PageError" = some (.ref a.C_PageError)
  m_NotValid : mg "NotValid" = some (.ref a.C_NotValid)
  m_Box : mg "Box" = some (.ref a.C_Box)
  m_Stack : mg "Stack" = some (.ref a.C_Stack)
  m_Owners : mg "Owners" = some (.ref a.C_Owners)
  m_Hand : mg "Hand" = some (.ref a.C_Hand)
  m_Kernel : mg "Kernel" = some (.ref a.C_Kernel)
  m_Invalidating : mg "Invalidating" = some (.ref a.C_Invalidating)
  m_Buffer : mg "Buffer" = some (.ref a.C_Buffer)
  m_Sizes : mg "Sizes" = some (.ref a.C_Sizes)
  m_Memory : mg "Memory" = some (.ref a.C_Memory)
  F_PageError_init : Fun K "__init__" "PageError.__init__" s_PageError_init a.f_PageError_init a.d_PageError_init
  B_PageError_init : Binds K a.d_PageError_init ["self"] []
  F_is_whole : Fun K "is_whole" "is_whole" s_is_whole a.f_is_whole a.d_is_whole
  B_is_whole : Binds K a.d_is_whole ["value"] []
  m_is_whole : mg "is_whole" = some (.ref a.f_is_whole)
  F_is_number_below : Fun K "is_number_below" "is_number_below" s_is_number_below a.f_is_number_below a.d_is_number_below
  B_is_number_below : Binds K a.d_is_number_below ["value", "many"] []
  m_is_number_below : mg "is_number_below" = some (.ref a.f_is_number_below)
  F_is_tuple_of : Fun K "is_tuple_of" "is_tuple_of" s_is_tuple_of a.f_is_tuple_of a.d_is_tuple_of
  B_is_tuple_of : Binds K a.d_is_tuple_of ["value", "many"] []
  m_is_tuple_of : mg "is_tuple_of" = some (.ref a.f_is_tuple_of)
  F_is_pair : Fun K "is_pair" "is_pair" s_is_pair a.f_is_pair a.d_is_pair
  B_is_pair : Binds K a.d_is_pair ["value"] []
  m_is_pair : mg "is_pair" = some (.ref a.f_is_pair)
  F_is_letter : Fun K "is_letter" "is_letter" s_is_letter a.f_is_letter a.d_is_letter
  B_is_letter : Binds K a.d_is_letter ["value"] []
  m_is_letter : mg "is_letter" = some (.ref a.f_is_letter)
  F_Box_init : Fun K "__init__" "Box.__init__" s_Box_init a.f_Box_init a.d_Box_init
  B_Box_init : Binds K a.d_Box_init ["self"] []
  F_Box_send : Fun K "send" "Box.send" s_Box_send a.f_Box_send a.d_Box_send
  B_Box_send : Binds K a.d_Box_send ["self", "letter"] []
  M_Box_send : Meth K a.C_Box "send" a.f_Box_send
  F_Box_take : Fun K "take" "Box.take" s_Box_take a.f_Box_take a.d_Box_take
  B_Box_take : Binds K a.d_Box_take ["self"] []
  M_Box_take : Meth K a.C_Box "take" a.f_Box_take
  F_Box_letters : Fun K "letters" "Box.letters" s_Box_letters a.f_Box_letters a.d_Box_letters
  B_Box_letters : Binds K a.d_Box_letters ["self"] []
  M_Box_letters : Meth K a.C_Box "letters" a.f_Box_letters
  F_asks_for : Fun K "asks_for" "asks_for" s_asks_for a.f_asks_for a.d_asks_for
  B_asks_for : Binds K a.d_asks_for ["request", "name"] []
  m_asks_for : mg "asks_for" = some (.ref a.f_asks_for)
  F_Stack_init : Fun K "__init__" "Stack.__init__" s_Stack_init a.f_Stack_init a.d_Stack_init
  B_Stack_init : Binds K a.d_Stack_init ["self", "machine"] []
  F_Stack_step : Fun K "step" "Stack.step" s_Stack_step a.f_Stack_step a.d_Stack_step
  B_Stack_step : Binds K a.d_Stack_step ["self", "memory", "processor"] []
  M_Stack_step : Meth K a.C_Stack "step" a.f_Stack_step
  F_Stack_ended : Fun K "ended" "Stack.ended" s_Stack_ended a.f_Stack_ended a.d_Stack_ended
  B_Stack_ended : Binds K a.d_Stack_ended ["self"] []
  M_Stack_ended : Meth K a.C_Stack "ended" a.f_Stack_ended
  F_Stack_value : Fun K "value" "Stack.value" s_Stack_value a.f_Stack_value a.d_Stack_value
  B_Stack_value : Binds K a.d_Stack_value ["self"] []
  M_Stack_value : Meth K a.C_Stack "value" a.f_Stack_value
  F_Stack__settled : Fun K "_settled" "Stack._settled" s_Stack__settled a.f_Stack__settled a.d_Stack__settled
  B_Stack__settled : Binds K a.d_Stack__settled ["self"] []
  M_Stack__settled : Meth K a.C_Stack "_settled" a.f_Stack__settled
  F_Stack__end : Fun K "_end" "Stack._end" s_Stack__end a.f_Stack__end a.d_Stack__end
  B_Stack__end : Binds K a.d_Stack__end ["self", "value"] []
  M_Stack__end : Meth K a.C_Stack "_end" a.f_Stack__end
  F_Owners_init : Fun K "__init__" "Owners.__init__" s_Owners_init a.f_Owners_init a.d_Owners_init
  B_Owners_init : Binds K a.d_Owners_init ["self", "many"] []
  F_Hand_init : Fun K "__init__" "Hand.__init__" s_Hand_init a.f_Hand_init a.d_Hand_init
  B_Hand_init : Binds K a.d_Hand_init ["self", "many"] []
  F_Kernel_init : Fun K "__init__" "Kernel.__init__" s_Kernel_init a.f_Kernel_init a.d_Kernel_init
  B_Kernel_init : Binds K a.d_Kernel_init ["self", "memory"] []
  F_Kernel_next_ticket : Fun K "next_ticket" "Kernel.next_ticket" s_Kernel_next_ticket a.f_Kernel_next_ticket a.d_Kernel_next_ticket
  B_Kernel_next_ticket : Binds K a.d_Kernel_next_ticket ["self"] []
  M_Kernel_next_ticket : Meth K a.C_Kernel "next_ticket" a.f_Kernel_next_ticket
  F_Invalidating_init : Fun K "__init__" "Invalidating.__init__" s_Invalidating_init a.f_Invalidating_init a.d_Invalidating_init
  B_Invalidating_init : Binds K a.d_Invalidating_init ["self", "kernel", "processor", "pairs"] []
  F_Invalidating_request : Fun K "request" "Invalidating.request" s_Invalidating_request a.f_Invalidating_request a.d_Invalidating_request
  B_Invalidating_request : Binds K a.d_Invalidating_request ["self"] []
  M_Invalidating_request : Meth K a.C_Invalidating "request" a.f_Invalidating_request
  F_Invalidating_accept : Fun K "accept" "Invalidating.accept" s_Invalidating_accept a.f_Invalidating_accept a.d_Invalidating_accept
  B_Invalidating_accept : Binds K a.d_Invalidating_accept ["self", "result"] []
  M_Invalidating_accept : Meth K a.C_Invalidating "accept" a.f_Invalidating_accept
  F_leads_to_frame : Fun K "leads_to_frame" "leads_to_frame" s_leads_to_frame a.f_leads_to_frame a.d_leads_to_frame
  B_leads_to_frame : Binds K a.d_leads_to_frame ["word"] []
  m_leads_to_frame : mg "leads_to_frame" = some (.ref a.f_leads_to_frame)
  F_Buffer_init : Fun K "__init__" "Buffer.__init__" s_Buffer_init a.f_Buffer_init a.d_Buffer_init
  B_Buffer_init : Binds K a.d_Buffer_init ["self"] []
  F_Buffer_put : Fun K "put" "Buffer.put" s_Buffer_put a.f_Buffer_put a.d_Buffer_put
  B_Buffer_put : Binds K a.d_Buffer_put ["self", "space", "page", "word"] []
  M_Buffer_put : Meth K a.C_Buffer "put" a.f_Buffer_put
  F_Buffer_drop : Fun K "drop" "Buffer.drop" s_Buffer_drop a.f_Buffer_drop a.d_Buffer_drop
  B_Buffer_drop : Binds K a.d_Buffer_drop ["self", "pairs"] []
  M_Buffer_drop : Meth K a.C_Buffer "drop" a.f_Buffer_drop
  F_Buffer_entries : Fun K "entries" "Buffer.entries" s_Buffer_entries a.f_Buffer_entries a.d_Buffer_entries
  B_Buffer_entries : Binds K a.d_Buffer_entries ["self"] []
  M_Buffer_entries : Meth K a.C_Buffer "entries" a.f_Buffer_entries
  F_is_between : Fun K "is_between" "is_between" s_is_between a.f_is_between a.d_is_between
  B_is_between : Binds K a.d_is_between ["value", "least", "most"] []
  m_is_between : mg "is_between" = some (.ref a.f_is_between)
  F_is_value : Fun K "is_value" "is_value" s_is_value a.f_is_value a.d_is_value
  B_is_value : Binds K a.d_is_value ["value"] []
  m_is_value : mg "is_value" = some (.ref a.f_is_value)
  F_Sizes_init : Fun K "__init__" "Sizes.__init__" s_Sizes_init a.f_Sizes_init a.d_Sizes_init
  B_Sizes_init : Binds K a.d_Sizes_init ["self", "processors", "frames", "blocks"] []
  F_Sizes_acknowledge : Fun K "acknowledge" "Sizes.acknowledge" s_Sizes_acknowledge a.f_Sizes_acknowledge a.d_Sizes_acknowledge
  B_Sizes_acknowledge : Binds K a.d_Sizes_acknowledge ["self", "processor"] []
  M_Sizes_acknowledge : Meth K a.C_Sizes "acknowledge" a.f_Sizes_acknowledge
  F_Sizes_word : Fun K "word" "Sizes.word" s_Sizes_word a.f_Sizes_word a.d_Sizes_word
  B_Sizes_word : Binds K a.d_Sizes_word ["self", "space", "page"] []
  M_Sizes_word : Meth K a.C_Sizes "word" a.f_Sizes_word
  F_Sizes_cells : Fun K "cells" "Sizes.cells" s_Sizes_cells a.f_Sizes_cells a.d_Sizes_cells
  B_Sizes_cells : Binds K a.d_Sizes_cells ["self"] []
  M_Sizes_cells : Meth K a.C_Sizes "cells" a.f_Sizes_cells
  F_first_values : Fun K "first_values" "first_values" s_first_values a.f_first_values a.d_first_values
  B_first_values : Binds K a.d_first_values ["sizes"] []
  m_first_values : mg "first_values" = some (.ref a.f_first_values)
  F_bound_of : Fun K "bound_of" "bound_of" s_bound_of a.f_bound_of a.d_bound_of
  B_bound_of : Binds K a.d_bound_of ["kind", "sizes"] []
  m_bound_of : mg "bound_of" = some (.ref a.f_bound_of)
  F_is_part : Fun K "is_part" "is_part" s_is_part a.f_is_part a.d_is_part
  B_is_part : Binds K a.d_is_part ["part", "kind", "sizes"] []
  m_is_part : mg "is_part" = some (.ref a.f_is_part)
  F_is_request : Fun K "is_request" "is_request" s_is_request a.f_is_request a.d_is_request
  B_is_request : Binds K a.d_is_request ["value", "sizes"] []
  m_is_request : mg "is_request" = some (.ref a.f_is_request)
  F_Memory_init : Fun K "__init__" "Memory.__init__" s_Memory_init a.f_Memory_init a.d_Memory_init
  B_Memory_init : Binds K a.d_Memory_init ["self", "sizes"] []
  F_Memory_access : Fun K "access" "Memory.access" s_Memory_access a.f_Memory_access a.d_Memory_access
  B_Memory_access : Binds K a.d_Memory_access ["self", "processor", "request"] []
  M_Memory_access : Meth K a.C_Memory "access" a.f_Memory_access
  F_Memory_peek : Fun K "peek" "Memory.peek" s_Memory_peek a.f_Memory_peek a.d_Memory_peek
  B_Memory_peek : Binds K a.d_Memory_peek ["self", "cell"] []
  M_Memory_peek : Meth K a.C_Memory "peek" a.f_Memory_peek
  F_Memory__result : Fun K "_result" "Memory._result" s_Memory__result a.f_Memory__result a.d_Memory__result
  B_Memory__result : Binds K a.d_Memory__result ["self", "processor", "request"] []
  M_Memory__result : Meth K a.C_Memory "_result" a.f_Memory__result
  F_Memory__take : Fun K "_take" "Memory._take" s_Memory__take a.f_Memory__take a.d_Memory__take
  B_Memory__take : Binds K a.d_Memory__take ["self", "processor"] []
  M_Memory__take : Meth K a.C_Memory "_take" a.f_Memory__take
  F_Memory__walk : Fun K "_walk" "Memory._walk" s_Memory__walk a.f_Memory__walk a.d_Memory__walk
  B_Memory__walk : Binds K a.d_Memory__walk ["self", "processor", "space", "page"] []
  M_Memory__walk : Meth K a.C_Memory "_walk" a.f_Memory__walk
  F__law_tape : Fun K "_law_tape" "_law_tape" s__law_tape a.f__law_tape a.d__law_tape
  B__law_tape : Binds K a.d__law_tape ["script"] []
  m__law_tape : mg "_law_tape" = some (.ref a.f__law_tape)
  F__law_at : Fun K "_law_at" "_law_at" s__law_at a.f__law_at a.d__law_at
  B__law_at : Binds K a.d__law_at ["tape", "k"] []
  m__law_at : mg "_law_at" = some (.ref a.f__law_at)
  F__law_word : Fun K "_law_word" "_law_word" s__law_word a.f__law_word a.d__law_word
  B__law_word : Binds K a.d__law_word ["number"] []
  m__law_word : mg "_law_word" = some (.ref a.f__law_word)
  F__law_other : Fun K "_law_other" "_law_other" s__law_other a.f__law_other a.d__law_other
  B__law_other : Binds K a.d__law_other ["memory", "p", "number"] []
  m__law_other : mg "_law_other" = some (.ref a.f__law_other)
  F__law_entries : Fun K "_law_entries" "_law_entries" s__law_entries a.f__law_entries a.d__law_entries
  B__law_entries : Binds K a.d__law_entries ["memory", "many", "pairs"] []
  m__law_entries : mg "_law_entries" = some (.ref a.f__law_entries)
  F__law_change : Fun K "_law_change" "_law_change" s__law_change a.f__law_change a.d__law_change
  B__law_change : Binds K a.d__law_change ["memory", "tape", "place"] []
  m__law_change : mg "_law_change" = some (.ref a.f__law_change)
  F__law_run : Fun K "_law_run" "_law_run" s__law_run a.f__law_run a.d__law_run
  B__law_run : Binds K a.d__law_run ["memory", "stack", "many", "tape", "place"] []
  m__law_run : mg "_law_run" = some (.ref a.f__law_run)
  F_law : Fun K "law" "law" s_law a.f_law a.d_law
  B_law : Binds K a.d_law ["script"] []
  m_law : mg "law" = some (.ref a.f_law)
  c_Box : Cls K a.C_Box
  mk_Box : Mk K a.C_Box a.f_Box_init
  n_Box__letters : NoAttr K a.C_Box "_letters"
  c_Stack : Cls K a.C_Stack
  mk_Stack : Mk K a.C_Stack a.f_Stack_init
  n_Stack__machines : NoAttr K a.C_Stack "_machines"
  n_Stack__value : NoAttr K a.C_Stack "_value"
  c_Owners : Cls K a.C_Owners
  mk_Owners : Mk K a.C_Owners a.f_Owners_init
  n_Owners__owners : NoAttr K a.C_Owners "_owners"
  n_Owners__held : NoAttr K a.C_Owners "_held"
  c_Hand : Cls K a.C_Hand
  mk_Hand : Mk K a.C_Hand a.f_Hand_init
  n_Hand__many : NoAttr K a.C_Hand "_many"
  n_Hand__frame : NoAttr K a.C_Hand "_frame"
  c_Kernel : Cls K a.C_Kernel
  mk_Kernel : Mk K a.C_Kernel a.f_Kernel_init
  n_Kernel_memory : NoAttr K a.C_Kernel "memory"
  n_Kernel_sizes : NoAttr K a.C_Kernel "sizes"
  n_Kernel_spaces : NoAttr K a.C_Kernel "spaces"
  n_Kernel_frames : NoAttr K a.C_Kernel "frames"
  n_Kernel_blocks : NoAttr K a.C_Kernel "blocks"
  n_Kernel_hand : NoAttr K a.C_Kernel "hand"
  n_Kernel_ticket : NoAttr K a.C_Kernel "ticket"
  c_Invalidating : Cls K a.C_Invalidating
  mk_Invalidating : Mk K a.C_Invalidating a.f_Invalidating_init
  n_Invalidating__sizes : NoAttr K a.C_Invalidating "_sizes"
  n_Invalidating__others : NoAttr K a.C_Invalidating "_others"
  n_Invalidating__letter : NoAttr K a.C_Invalidating "_letter"
  n_Invalidating__sent : NoAttr K a.C_Invalidating "_sent"
  n_Invalidating__answered : NoAttr K a.C_Invalidating "_answered"
  n_Invalidating__number : NoAttr K a.C_Invalidating "_number"
  c_Buffer : Cls K a.C_Buffer
  mk_Buffer : Mk K a.C_Buffer a.f_Buffer_init
  n_Buffer__entries : NoAttr K a.C_Buffer "_entries"
  c_Sizes : Cls K a.C_Sizes
  mk_Sizes : Mk K a.C_Sizes a.f_Sizes_init
  n_Sizes_processors : NoAttr K a.C_Sizes "processors"
  n_Sizes_frames : NoAttr K a.C_Sizes "frames"
  n_Sizes_blocks : NoAttr K a.C_Sizes "blocks"
  n_Sizes__acknowledges : NoAttr K a.C_Sizes "_acknowledges"
  n_Sizes__words : NoAttr K a.C_Sizes "_words"
  n_Sizes__frame_cells : NoAttr K a.C_Sizes "_frame_cells"
  n_Sizes__swap_blocks : NoAttr K a.C_Sizes "_swap_blocks"
  n_Sizes__file_blocks : NoAttr K a.C_Sizes "_file_blocks"
  c_Memory : Cls K a.C_Memory
  mk_Memory : Mk K a.C_Memory a.f_Memory_init
  n_Memory_sizes : NoAttr K a.C_Memory "sizes"
  n_Memory_count : NoAttr K a.C_Memory "count"
  n_Memory_buffers : NoAttr K a.C_Memory "buffers"
  n_Memory_boxes : NoAttr K a.C_Memory "boxes"
  n_Memory__cells : NoAttr K a.C_Memory "_cells"
  n_Memory__log : NoAttr K a.C_Memory "_log"
  k_CELLS : ∃ u, mg "CELLS" = some u ∧ RelV (.int 2) u
  k_FILES : ∃ u, mg "FILES" = some u ∧ RelV (.int 2) u
  k_FILE_PAGES : ∃ u, mg "FILE_PAGES" = some u ∧ RelV (.int 4) u
  k_MOST_ENTRIES : ∃ u, mg "MOST_ENTRIES" = some u ∧ RelV (.int 2) u
  k_PAGES : ∃ u, mg "PAGES" = some u ∧ RelV (.int 8) u
  k_SPACES : ∃ u, mg "SPACES" = some u ∧ RelV (.int 4) u
  b_ValueError : mg "ValueError" = none
  b_abs : mg "abs" = none
  b_all : mg "all" = none
  b_bool : mg "bool" = none
  b_int : mg "int" = none
  b_isinstance : mg "isinstance" = none
  b_len : mg "len" = none
  b_list : mg "list" = none
  b_min : mg "min" = none
  b_range : mg "range" = none
  b_str : mg "str" = none
  b_tuple : mg "tuple" = none
  b_zip : mg "zip" = none
  vV : PySem.W.findCls K (.type "ValueError") (.type "type") "__init__" = some (.val (.builtin "ValueError.__init__"))
  xi_NotValid : PySem.W.findIn K (.ref a.C_NotValid) "__init__" = some (some (.ref a.f_PageError_init))
  xt_NotValid : PySem.W.typeIn K (.ref a.f_PageError_init) = some (.type "function")
  xs_NotValid : PySem.W.findIn K (.ref a.C_NotValid) "__setattr__" = some (some (.builtin "object.__setattr__"))
  xb_NotValid : PySem.W.subIn K (.ref a.C_NotValid) (.type "BaseException") = some true
  xy_NotValid : PySem.W.typeIn K (.ref a.C_NotValid) = some (.type "type")
  xk_NotValid : PySem.W.keepIn K (.ref a.C_NotValid) = true
  e1 : PySem.W.findIn K (.ref a.C_NotValid) "__getattribute__" = some (some (.builtin "BaseException.__getattribute__"))
  e2 : PySem.W.findIn K (.ref a.C_NotValid) "__getattr__" = some none
  e4 : PySem.W.hasDictIn K a.C_NotValid = true
  e5 : PySem.W.findIn K (.ref a.C_NotValid) "__class__" = some (some (.builtin "object.__class__"))
  e6 : PySem.W.specialIn K (.builtin "object.__class__") "__get__" = some (some (.builtin "getset_descriptor.__get__"))
  e7 : PySem.W.takesIn K (.builtin "object.__class__") = some true
  e8 : PySem.W.mroIn K a.C_NotValid (.type "object") = some true
  p1 : PySem.W.subIn K (.ref a.C_PageError) (.type "BaseException") = some true
  p2 : PySem.W.hasDictIn K a.C_PageError = true
  p3 : PySem.W.typeIn K (.ref a.C_PageError) = some (.type "type")
  p4 : PySem.W.subIn K (.ref a.C_NotValid) (.ref a.C_PageError) = some true
  q4 : PySem.W.kitOne K (.ref a.C_NotValid) (.ref a.C_NotValid) = some true
  x_NotValid : OexC K a.C_NotValid
  e_NotValid : ExcC K a.C_NotValid
  pt : PartsAt w K mg
section
variable {P : Program} {w : World} {K : PySem.W.Frag} {mg : Str → Option Value} {base : Heap} {a : Ad}
theorem ok_is_whole (T : Txt w K mg a) : FnOk P w K mg base CX0 1 a.f_is_whole a.d_is_whole ["value"] (spWhole K) := by
  refine T.F_is_whole.ok sc_is_whole (fun vs H Q E h => ?_) (fun cdv A outer s H vs Q E hr h => ?_)
  · obtain ⟨v, d, rfl, _⟩ := h
    rfl
  · obtain ⟨v, d, rfl, hd, q⟩ := h
    refine ⟨_, (pss_one (ps_ret (pe_and (pe_callB call_isi (by rfl) T.b_isinstance (by decide +kernel) (pa_cons (pv 0) (pa_cons (pe_bltn (v := .ty "int") rfl T.b_int (by decide +kernel) rfl) pa_nil))) (pe_one (pe_not (pe_callB call_isi (by rfl) T.b_isinstance (by decide +kernel) (pa_cons (pv 0) (pa_cons (pe_bltn (v := .ty "bool") rfl T.b_bool (by decide +kernel) rfl) pa_nil)))))))), ?_⟩
    have ty := tyx hd
    refine ⟨_, rfl, _, _, _, _, _, rfl, .ty _, ty, kit_int d, _, rfl, ?_⟩
    cases d with
    | int i => exact iteT ⟨_, rfl, _, _, _, _, _, rfl, .ty _, ty, kit_bool _, _, rfl, q⟩
    | bool b => exact iteT ⟨_, rfl, _, _, _, _, _, rfl, .ty _, ty, kit_bool _, _, rfl, q⟩
    | none => exact iteF q
    | str x => exact iteF q
    | list xs => exact iteF q
    | tuple xs => exact iteF q
    | dict xs => exact iteF q
theorem ok_is_number_below (T : Txt w K mg a) : FnOk P w K mg base CX0 2 a.f_is_number_below a.d_is_number_below ["value", "many"] (spBelow K) := by
  refine T.F_is_number_below.ok sc_is_number_below (fun vs H Q E h => ?_) (fun cdv A outer s H vs Q E hr h => ?_)
  · obtain ⟨v, d, n, rfl, _⟩ := h
    rfl
  · obtain ⟨v, d, n, rfl, hd, q⟩ := h
    refine ⟨_, (pss_one (ps_ret (pe_and (pe_call (ok_is_whole T) (hr.mono (by decide)) rfl T.m_is_whole T.F_is_whole.kp T.B_is_whole .nil pass0 (pa_cons (pv 0) pa_nil)) (pe_one (pe_chain (op_le) (op_lt) pe_int (pv 0) (pv 1)))))), ?_⟩
    refine ⟨_, rfl, _, d, rfl, hd, _, rfl, ?_⟩
    cases d with
    | int i =>
      cases hd
      refine iteT ⟨_, rfl, _, _, rfl, rfl, _, rfl, ?_⟩
      refine ite2 (fun c => ?_) (fun c => ?_)
      · refine ⟨_, rfl, _, _, rfl, rfl, ?_⟩
        have e : belowD (.int i) n = decide (i < n) := by simp only [belowD, c, Bool.true_and]
        rw [e] at q
        exact q
      · have e : belowD (.int i) n = false := by simp only [belowD, Bool.eq_false_iff.mpr c, Bool.false_and]
        rw [e] at q
        exact q
    | bool b => exact iteF q
    | none => exact iteF q
    | str x => exact iteF q
    | list xs => exact iteF q
    | tuple xs => exact iteF q
    | dict xs => exact iteF q

theorem ok_is_tuple_of (T : Txt w K mg a) : FnOk P w K mg base CX0 1 a.f_is_tuple_of a.d_is_tuple_of ["value", "many"] (spTupOf K) := by
  refine T.F_is_tuple_of.ok sc_is_tuple_of (fun vs H Q E h => ?_) (fun cdv A outer s H vs Q E hr h => ?_)
  · obtain ⟨v, d, n, rfl, _⟩ := h
    rfl
  · obtain ⟨v, d, n, rfl, hd, q⟩ := h
    refine ⟨_, (pss_one (ps_ret (pe_and (pe_callB call_isi (by rfl) T.b_isinstance (by decide +kernel) (pa_cons (pv 0) (pa_cons (pe_bltn (v := .ty "tuple") rfl T.b_tuple (by decide +kernel) rfl) pa_nil))) (pe_one (pe_cmpR (op_eq) (pe_callB call_len_seq (by rfl) T.b_len (by decide +kernel) (pa_cons (pv 0) pa_nil)) (pv 1) (nomark _)))))), ?_⟩
    have ty := tyx hd
    refine ⟨_, rfl, _, _, _, _, _, rfl, .ty _, ty, kit_tup d, _, rfl, ?_⟩
    cases d with
    | tuple ds =>
      cases hd with
      | @tup p xs _ s1 q1 =>
        refine iteT ⟨_, rfl, _, _, rfl, .inr s1, _, rfl, rfl, ?_⟩
        have e : decide (V.int (xs.length : Int) = V.int n) = tupD (.tuple ds) n := by
          simp only [tupD, dpAll_len q1, V.int.injEq]
        rw [e]
        exact q
    | int b => exact iteF q
    | bool b => exact iteF q
    | none => exact iteF q
    | str x => exact iteF q
    | list xs => exact iteF q
    | dict xs => exact iteF q

theorem ok_PageError_init (T : Txt w K mg a) : FnOk P w K mg base CX0 1 a.f_PageError_init a.d_PageError_init ["self"] (spNop K) := by
  refine T.F_PageError_init.ok sc_PageError_init (fun vs H Q E h => ?_) (fun cdv A outer s H vs Q E hr h => ?_)
  · obtain ⟨x, C, rfl, _⟩ := h
    rfl
  · obtain ⟨x, C, rfl, hC, hx, q⟩ := h
    refine ⟨_, (pss_one (ps_expr (pe_veinit rfl T.b_ValueError T.vV (pa_cons (pv 0) pa_nil)))), ?_⟩
    exact ⟨_, rfl, x, C, [], rfl, Nat.zero_le _, hC, hx, q⟩

theorem ok_is_between (T : Txt w K mg a) : FnOk P w K mg base CX0 2 a.f_is_between a.d_is_between ["value", "least", "most"] (spBetween) := by
  refine T.F_is_between.ok sc_is_between (fun vs H Q E h => ?_) (fun cdv A outer s H vs Q E hr h => ?_)
  · obtain ⟨v, l, m, rfl, _⟩ := h
    rfl
  · obtain ⟨v, l, m, rfl, q⟩ := h
    refine ⟨_, (pss_one (ps_ret (pe_and (pe_call (ok_is_whole T) (hr.mono (by decide)) rfl T.m_is_whole T.F_is_whole.kp T.B_is_whole .nil pass0 (pa_cons (pv 0) pa_nil)) (pe_one (pe_chain (op_le) (op_le) (pv 1) (pv 0) (pv 2)))))), ?_⟩
    refine ⟨_, rfl, _, .int v, rfl, .int v, _, rfl, iteT ⟨_, rfl, _, rfl, _, _, rfl, rfl, _, rfl, ?_⟩⟩
    refine ite2 (fun c => ?_) (fun c => ?_)
    · refine ⟨_, rfl, _, _, rfl, rfl, ?_⟩
      rw [c, Bool.true_and] at q
      exact q
    · rw [Bool.eq_false_iff.mpr c, Bool.false_and] at q
      exact q
theorem ok_Sizes_init (T : Txt w K mg a) : FnOk P w K mg base (L2.CX P w) 4 a.f_Sizes_init a.d_Sizes_init ["self", "processors", "frames", "blocks"] (spSizesInit a.C_Sizes a.C_NotValid) := by
  refine T.F_Sizes_init.okX sc_Sizes_init (fun vs H Q E h => ?_) (fun cdv A outer s H vs Q E hr h => ?_)
  · obtain ⟨z, dx, p, f, b, rfl, _⟩ := h
    rfl
  · obtain ⟨z, dx, p, f, b, rfl, hz, yes, no⟩ := h
    refine ⟨_, (pss_cons (ps_if (PW.pt (pw_or (pt_not (pt_val (pe_call (ok_is_between T) (hr.mono (by decide)) rfl T.m_is_between T.F_is_between.kp T.B_is_between .nil pass0 (pa_cons (pv 1) (pa_cons pe_int (pa_cons pe_int pa_nil)))))) (pw_or (pt_not (pt_val (pe_call (ok_is_between T) (hr.mono (by decide)) rfl T.m_is_between T.F_is_between.kp T.B_is_between .nil pass0 (pa_cons (pv 2) (pa_cons pe_int (pa_cons pe_int pa_nil)))))) (pw_or1 (pt_not (pt_val (pe_call (ok_is_between T) (hr.mono (by decide)) rfl T.m_is_between T.F_is_between.kp T.B_is_between .nil pass0 (pa_cons (pv 3) (pa_cons pe_int (pa_cons pe_int pa_nil)))))))))) (pss_one (ps_raise rfl (takes_of rfl rfl rfl rfl) (mk_exc0 T.x_NotValid T.xi_NotValid T.xt_NotValid (ok_PageError_init T) (hr.mono (by decide)) T.B_PageError_init pass0 rfl T.m_NotValid))) pss_nil)
    (pss_cons (ps_fld (pv 0) (pv 1) rfl)
    (pss_cons (ps_fld (pv 0) (pv 2) rfl)
    (pss_cons (ps_fld (pv 0) (pv 3) rfl)
    (pss_cons (ps_fld (pv 0) pe_int rfl)
    (pss_cons (ps_fld (pv 0) (pe_op op_add (pe_fld (pv 0) rfl) (pv 1)) rfl)
    (pss_cons (ps_fld (pv 0) (pe_op op_add (pe_fld (pv 0) rfl) (pe_op op_mul (pe_con rfl T.k_SPACES) (pe_con rfl T.k_PAGES))) rfl)
    (pss_cons (ps_fld (pv 0) (pe_op op_add (pe_fld (pv 0) rfl) (pe_op op_mul (pe_con rfl T.k_CELLS) (pv 2))) rfl)
    (pss_one (ps_fld (pv 0) (pe_op op_add (pe_fld (pv 0) rfl) (pv 3)) rfl)))))))))), ?_⟩
    have bad : okSz p f b = false → ∀ x : Addr, H x = none → E (.ref a.C_NotValid) none (del (upd H x (exo x a.C_NotValid none)) x) := fun k x hx => no k _ fun b2 o h2 => by
      have ne := ne_of_none h2 hx
      rw [del_ne ne, upd_ne ne]
      exact h2
    refine ⟨_, rfl, _, _, _, rfl, ?_⟩
    cases e1 : (decide (1 ≤ p) && decide (p ≤ 3)) with
    | false => exact ⟨_, rfl, iteT (iteT fun x hx => ⟨x, a.C_NotValid, rfl, T.x_NotValid, upd_same, rfl, upd_same, bad (by unfold okSz; rw [e1]; rfl) x hx⟩)⟩
    | true =>
    refine ⟨_, rfl, iteF ⟨_, rfl, _, _, _, rfl, ?_⟩⟩
    cases e2 : (decide (2 ≤ f) && decide (f ≤ 12)) with
    | false => exact ⟨_, rfl, iteT (iteT fun x hx => ⟨x, a.C_NotValid, rfl, T.x_NotValid, upd_same, rfl, upd_same, bad (by unfold okSz; rw [e1, e2]; rfl) x hx⟩)⟩
    | true =>
    refine ⟨_, rfl, iteF ⟨_, rfl, _, _, _, rfl, ?_⟩⟩
    cases e3 : (decide (0 ≤ b) && decide (b ≤ 12)) with
    | false => exact ⟨_, rfl, iteT fun x hx => ⟨x, a.C_NotValid, rfl, T.x_NotValid, upd_same, rfl, upd_same, bad (by unfold okSz; rw [e1, e2, e3]; rfl) x hx⟩⟩
    | true =>
      have k : okSz p f b = true := by unfold okSz; rw [e1, e2, e3]; rfl
      refine ⟨_, rfl, iteF ?_⟩
      have s0 : SameBut z H H := fun _ _ _ h => h
      refine ⟨_, rfl, _, rfl, z, a.C_Sizes, dx, _, rfl, hz, T.c_Sizes, T.n_Sizes_processors, (by show 0 < 1000; decide), ?_⟩
      have s1 := s0.own (o := .ins a.C_Sizes dx [("processors", .int p)])
      refine ⟨_, rfl, _, rfl, z, a.C_Sizes, dx, _, rfl, upd_same, T.c_Sizes, T.n_Sizes_frames, (by show 1 < 1000; decide), ?_⟩
      have s2 := s1.own (o := .ins a.C_Sizes dx [("processors", .int p), ("frames", .int f)])
      refine ⟨_, rfl, _, rfl, z, a.C_Sizes, dx, _, rfl, upd_same, T.c_Sizes, T.n_Sizes_blocks, (by show 2 < 1000; decide), ?_⟩
      have s3 := s2.own (o := .ins a.C_Sizes dx [("processors", .int p), ("frames", .int f), ("blocks", .int b)])
      refine ⟨_, rfl, z, a.C_Sizes, dx, _, rfl, upd_same, T.c_Sizes, T.n_Sizes__acknowledges, (by show 3 < 1000; decide), ?_⟩
      have s4 := s3.own (o := .ins a.C_Sizes dx ((szF p f b).take 4))
      refine ⟨_, rfl, z, a.C_Sizes, dx, _, _, rfl, upd_same, T.c_Sizes, T.n_Sizes__acknowledges, rfl, _, rfl, _, _, rfl, rfl, _, rfl, z, a.C_Sizes, dx, _, rfl, upd_same, T.c_Sizes, T.n_Sizes__words, (by show 4 < 1000; decide), ?_⟩
      have s5 := s4.own (o := .ins a.C_Sizes dx ((szF p f b).take 5))
      refine ⟨_, rfl, z, a.C_Sizes, dx, _, _, rfl, upd_same, T.c_Sizes, T.n_Sizes__words, rfl, _, _, rfl, rfl, .inl ⟨by decide, by decide⟩, _, _, rfl, rfl, _, rfl, z, a.C_Sizes, dx, _, rfl, upd_same, T.c_Sizes, T.n_Sizes__frame_cells, (by show 5 < 1000; decide), ?_⟩
      have s6 := s5.own (o := .ins a.C_Sizes dx ((szF p f b).take 6))
      refine ⟨_, rfl, z, a.C_Sizes, dx, _, _, rfl, upd_same, T.c_Sizes, T.n_Sizes__frame_cells, rfl, _, rfl, _, _, rfl, rfl, .inl ⟨by decide, by decide⟩, _, _, rfl, rfl, _, rfl, z, a.C_Sizes, dx, _, rfl, upd_same, T.c_Sizes, T.n_Sizes__swap_blocks, (by show 6 < 1000; decide), ?_⟩
      have s7 := s6.own (o := .ins a.C_Sizes dx ((szF p f b).take 7))
      refine ⟨_, rfl, z, a.C_Sizes, dx, _, _, rfl, upd_same, T.c_Sizes, T.n_Sizes__swap_blocks, rfl, _, rfl, _, _, rfl, rfl, _, rfl, z, a.C_Sizes, dx, _, rfl, upd_same, T.c_Sizes, T.n_Sizes__file_blocks, (by show 7 < 1000; decide), ?_⟩
      exact yes k _ (s7.own (o := .ins a.C_Sizes dx (szF p f b))) upd_same

theorem ok_is_pair (T : Txt w K mg a) : FnOk P w K mg base CX0 3 a.f_is_pair a.d_is_pair ["value"] (spPair K) := by
  refine T.F_is_pair.ok sc_is_pair (fun vs H Q E h => ?_) (fun cdv A outer s H vs Q E hr h => ?_)
  · obtain ⟨v, d, rfl, _⟩ := h
    rfl
  · obtain ⟨v, d, rfl, hd, q⟩ := h
    refine ⟨_, (pss_cons (ps_if (pt_not (pt_val (pe_call (ok_is_tuple_of T) (hr.mono (by decide)) rfl T.m_is_tuple_of T.F_is_tuple_of.kp T.B_is_tuple_of .nil pass0 (pa_cons (pv 0) (pa_cons pe_int pa_nil))))) (pss_one (ps_ret pe_bl)) pss_nil)
    (pss_cons (ps_asg (pv 0) (pg_tup rfl (pgs_cons (pg_name (i := 1) sc_is_pair.nd rfl (Or.inl rfl)) (pgs_cons (pg_name (i := 2) sc_is_pair.nd rfl (Or.inl rfl)) pgs_nil))))
    (pss_one (ps_ret (pe_and (pe_call (ok_is_number_below T) (hr.mono (by decide)) rfl T.m_is_number_below T.F_is_number_below.kp T.B_is_number_below .nil pass0 (pa_cons (pv 1) (pa_cons (pe_con rfl T.k_SPACES) pa_nil))) (pe_one (pe_call (ok_is_number_below T) (hr.mono (by decide)) rfl T.m_is_number_below T.F_is_number_below.kp T.B_is_number_below .nil pass0 (pa_cons (pv 2) (pa_cons (pe_con rfl T.k_PAGES) pa_nil))))))))), ?_⟩
    refine ⟨_, rfl, v, d, 2, rfl, hd, _, rfl, ?_⟩
    cases e : tupD d 2 with
    | false =>
      rw [pair_no e] at q
      exact iteT q
    | true =>
      obtain ⟨x, y, rfl⟩ := tup2 e
      refine iteF ?_
      cases hd with
      | @tup p xs _ s1 q1 =>
        cases q1 with
        | @cons vx r _ _ dx q2 =>
          cases q2 with
          | @cons vy r _ _ dy q3 =>
            cases q3
            refine ⟨_, rfl, p, _, rfl, s1, rfl, _, _, rfl, _, _, rfl, rfl, ?_⟩
            refine ⟨_, rfl, _, x, 4, rfl, dx, _, rfl, ?_⟩
            have e2 : pairD (.tuple [x, y]) = (belowD x 4 && belowD y 8) := rfl
            rw [e2] at q
            cases e3 : belowD x 4 with
            | false =>
              rw [e3] at q
              exact iteF q
            | true =>
              rw [e3, Bool.true_and] at q
              exact iteT ⟨_, rfl, _, y, 8, rfl, dy, q⟩
theorem ok_is_letter (T : Txt w K mg a) : FnOk P w K mg base CX0 4 a.f_is_letter a.d_is_letter ["value"] (spLetter K) := by
  refine T.F_is_letter.ok sc_is_letter (fun vs H Q E h => ?_) (fun cdv A outer s H vs Q E hr h => ?_)
  · obtain ⟨v, d, rfl, _⟩ := h
    rfl
  · obtain ⟨v, d, rfl, hd, few, q⟩ := h
    refine ⟨_, (pss_cons (ps_if (pt_not (pt_val (pe_call (ok_is_tuple_of T) (hr.mono (by decide)) rfl T.m_is_tuple_of T.F_is_tuple_of.kp T.B_is_tuple_of .nil pass0 (pa_cons (pv 0) (pa_cons pe_int pa_nil))))) (pss_one (ps_ret pe_bl)) pss_nil)
    (pss_cons (ps_asg (pv 0) (pg_tup rfl (pgs_cons (pg_name (i := 1) sc_is_letter.nd rfl (Or.inl rfl)) (pgs_cons (pg_name (i := 2) sc_is_letter.nd rfl (Or.inl rfl)) pgs_nil))))
    (pss_cons (ps_if (PW.pt (pw_or (pt_not (pt_val (pe_call (ok_is_whole T) (hr.mono (by decide)) rfl T.m_is_whole T.F_is_whole.kp T.B_is_whole .nil pass0 (pa_cons (pv 1) pa_nil)))) (pw_or1 (pt_cmpR (op_lt) (pv 1) pe_int (nomark _))))) (pss_one (ps_ret pe_bl)) pss_nil)
    (pss_cons (ps_if (PW.pt (pw_or (pt_not (pt_val (pe_callB call_isi (by rfl) T.b_isinstance (by decide +kernel) (pa_cons (pv 2) (pa_cons (pe_bltn (v := .ty "tuple") rfl T.b_tuple (by decide +kernel) rfl) pa_nil))))) (pw_or1 (pt_cmpR (op_eq) (pe_callB call_len_seq (by rfl) T.b_len (by decide +kernel) (pa_cons (pv 2) pa_nil)) pe_int (nomark _))))) (pss_one (ps_ret pe_bl)) pss_nil)
    (pss_one (ps_ret (pe_callB (cr_all rfl) (by rfl) T.b_all (by decide +kernel) (pa_cons (pe_lc (own := [("pair", 3)]) (g := gName 3) (tt := tYes) rfl sc_is_letter.nd (pi_tup (pv 2)) (blkOk_by (own := [("pair", 3)]) (N := ["value", "ticket", "pairs", "pair"]) (sc := defScope s_is_letter) (by decide +kernel)) (fun _ _ _ _ _ => (pg_name (i := 3) sc_is_letter.nd rfl (Or.inl rfl))) (fun _ _ _ _ _ => pts_nil) (fun _ _ _ _ _ => (pe_call (ok_is_pair T) (hr.mono (by decide)) rfl T.m_is_pair T.F_is_pair.kp T.B_is_pair .nil pass0 (pa_cons (pv 3) pa_nil)))) pa_nil)))))))), ?_⟩
    refine ⟨_, rfl, v, d, 2, rfl, hd, _, rfl, ?_⟩
    cases e : tupD d 2 with
    | false =>
      rw [letter_no e] at q
      exact iteT (q H (Same.refl H))
    | true =>
      obtain ⟨x, y, rfl⟩ := tup2 e
      refine iteF ?_
      cases hd with
      | @tup p xs _ s1 q1 =>
        cases q1 with
        | @cons vx r _ _ dx q2 =>
          cases q2 with
          | @cons vy r _ _ dy q3 =>
            cases q3
            refine ⟨_, rfl, p, _, rfl, s1, rfl, _, _, rfl, _, _, rfl, rfl, ?_⟩
            have e2 : letterD (.tuple [x, y]) = (posD x && manyD y) := rfl
            rw [e2] at q
            refine ⟨_, rfl, _, x, rfl, dx, _, rfl, ?_⟩
            have noInt : wholeD x = false → posD x = false := by cases x <;> simp [wholeD, posD]
            cases e3 : wholeD x with
            | false =>
              rw [noInt e3] at q
              exact iteT (iteT (q H (Same.refl H)))
            | true =>
              cases x with
              | int i =>
                cases dx
                refine iteF ⟨_, rfl, _, _, rfl, rfl, _, rfl, ?_⟩
                refine ite2 (fun c => ?_) (fun c => ?_)
                · have e4 : posD (.int i) = false := by simp only [posD, c, Bool.not_true]
                  rw [e4] at q
                  exact q H (Same.refl H)
                · have e4 : posD (.int i) = true := by simp only [posD, Bool.eq_false_iff.mpr c, Bool.not_false]
                  rw [e4, Bool.true_and] at q
                  have ty := tyx dy
                  refine ⟨_, rfl, _, _, _, _, _, rfl, .ty _, ty, kit_tup y, _, rfl, ?_⟩
                  cases e5 : isTup y with
                  | false =>
                    have e6 : manyD y = false := by cases y <;> simp_all [isTup, manyD]
                    rw [e6] at q
                    exact iteT (iteT (q H (Same.refl H)))
                  | true =>
                    cases y with
                    | tuple ps =>
                      cases dy with
                      | @tup p2 xs2 _ s2 qs =>
                        refine iteF ⟨_, rfl, _, _, rfl, .inr s2, rfl, _, rfl, ?_⟩
                        have len := dpAll_len qs
                        have e6 : manyD (.tuple ps) = (!decide ((ps.length : Int) = 0) && ps.all pairD) := rfl
                        rw [e6] at q
                        refine ite2 (fun c2 => ?_) (fun c2 => ?_)
                        · have z : (ps.length : Int) = 0 := by
                            rw [← len]
                            simpa using c2
                          rw [decide_eq_true z] at q
                          exact q H (Same.refl H)
                        · have z : ¬ (ps.length : Int) = 0 := by
                            rw [← len]
                            simpa using c2
                          rw [decide_eq_false z, Bool.not_false, Bool.true_and] at q
                          have lim := few _ _ rfl
                          refine ⟨_, rfl, p2, rfl, ⟨_, s2⟩, fun D hD => lc_tup (K := K) (a := p2) (xs := xs2) (fun j H' => Same H H' ∧ H' D = some (.lst ((ps.take j).map fun d => V.bl (pairD d))))
                            ⟨Same.new hD, upd_same⟩ (fun j H' _ ⟨eS, _⟩ => Same.tupS eS s2) ?_ ?_⟩
                          · rintro j y H' hy ⟨eS, eD⟩
                            obtain ⟨dy, h1, h2⟩ := dpAll_get qs hy
                            refine ⟨rfl, _, rfl, _, dy, rfl, dp_mono eS h2, _, eD, ?_, Same.put eS hD, ?_⟩
                            · rw [List.length_map]
                              exact Nat.lt_of_le_of_lt (Nat.le_trans (by rw [List.length_take]; exact Nat.min_le_right _ _) lim) (by decide : 1000 < sizeLine)
                            · rw [upd_same, take_snoc h1, List.map_append]
                              rfl
                          · rintro H' ⟨eS, eD⟩
                            refine ⟨D, ps.map pairD, rfl, SqL.of ?_, ?_⟩
                            · rw [eD, len, List.take_length, List.map_map]
                              rfl
                            · have e7 : (ps.map pairD).all id = ps.all pairD := by
                                rw [List.all_map]
                                rfl
                              rw [e7]
                              exact q H' eS
                    | _ => simp [isTup] at e5
              | _ => simp [wholeD] at e3

theorem ok_Buffer_init (T : Txt w K mg a) : FnOk P w K mg base CX0 1 a.f_Buffer_init a.d_Buffer_init ["self"] (spBufInit a.C_Buffer) := by
  refine T.F_Buffer_init.ok sc_Buffer_init (fun vs H Q E h => ?_) (fun cdv A outer s H vs Q E hr h => ?_)
  · obtain ⟨x, dx, rfl, _⟩ := h
    rfl
  · obtain ⟨x, dx, rfl, hx, q⟩ := h
    refine ⟨_, (pss_one (ps_fld (pv 0) (pe_lst pa_nil) rfl)), ?_⟩
    refine ⟨Nat.zero_le _, fun l hl => ⟨_, rfl, x, a.C_Buffer, dx, [], rfl, (upd_ne (ne_of_none hx hl)).trans hx, T.c_Buffer, T.n_Buffer__entries, (by show 0 < 1000; decide), ?_⟩⟩
    have nlx : l ≠ x := (ne_of_none hx hl).symm
    exact q _ l (fun y o ny hy => (upd_ne ny).trans ((Same.new hl) _ _ hy)) hl ⟨upd_same, (upd_ne nlx).trans upd_same⟩
theorem ok_Buffer_entries (T : Txt w K mg a) : FnOk P w K mg base CX0 1 a.f_Buffer_entries a.d_Buffer_entries ["self"] (spEntries a.C_Buffer) := by
  refine T.F_Buffer_entries.ok sc_Buffer_entries (fun vs H Q E h => ?_) (fun cdv A outer s H vs Q E hr h => ?_)
  · obtain ⟨b, dx, l, zs, rfl, _⟩ := h
    rfl
  · obtain ⟨b, dx, l, zs, rfl, hB, q⟩ := h
    refine ⟨_, (pss_one (ps_ret (pe_callTy call_list_of (by rfl) T.b_list (by decide +kernel) (pa_cons (pe_fld (pv 0) rfl) pa_nil)))), ?_⟩
    exact ⟨_, rfl, b, a.C_Buffer, dx, _, _, rfl, hB.ins, T.c_Buffer, T.n_Buffer__entries, rfl, l, zs, rfl, .inl (SqL.of hB.lst), q⟩
theorem ok_Box_init (T : Txt w K mg a) : FnOk P w K mg base CX0 1 a.f_Box_init a.d_Box_init ["self"] (spBoxInit a.C_Box) := by
  refine T.F_Box_init.ok sc_Box_init (fun vs H Q E h => ?_) (fun cdv A outer s H vs Q E hr h => ?_)
  · obtain ⟨x, dx, rfl, _⟩ := h
    rfl
  · obtain ⟨x, dx, rfl, hx, q⟩ := h
    refine ⟨_, (pss_one (ps_fld (pv 0) (pe_lst pa_nil) rfl)), ?_⟩
    refine ⟨Nat.zero_le _, fun l hl => ⟨_, rfl, x, a.C_Box, dx, [], rfl, (upd_ne (ne_of_none hx hl)).trans hx, T.c_Box, T.n_Box__letters, (by show 0 < 1000; decide), ?_⟩⟩
    have nlx : l ≠ x := (ne_of_none hx hl).symm
    exact q _ l (fun y o ny hy => (upd_ne ny).trans ((Same.new hl) _ _ hy)) hl ⟨upd_same, (upd_ne nlx).trans upd_same⟩
theorem ok_Box_letters (T : Txt w K mg a) : FnOk P w K mg base CX0 1 a.f_Box_letters a.d_Box_letters ["self"] (spLetters a.C_Box) := by
  refine T.F_Box_letters.ok sc_Box_letters (fun vs H Q E h => ?_) (fun cdv A outer s H vs Q E hr h => ?_)
  · obtain ⟨b, dx, l, zs, rfl, _⟩ := h
    rfl
  · obtain ⟨b, dx, l, zs, rfl, hB, q⟩ := h
    refine ⟨_, (pss_one (ps_ret (pe_callTy call_list_of (by rfl) T.b_list (by decide +kernel) (pa_cons (pe_fld (pv 0) rfl) pa_nil)))), ?_⟩
    exact ⟨_, rfl, b, a.C_Box, dx, _, _, rfl, hB.ins, T.c_Box, T.n_Box__letters, rfl, l, zs, rfl, .inl (SqL.of hB.lst), q⟩
theorem ok_Sizes_cells (T : Txt w K mg a) : FnOk P w K mg base CX0 1 a.f_Sizes_cells a.d_Sizes_cells ["self"] (spCells a.C_Sizes) := by
  refine T.F_Sizes_cells.ok sc_Sizes_cells (fun vs H Q E h => ?_) (fun cdv A outer s H vs Q E hr h => ?_)
  · obtain ⟨z, dx, p, f, b, rfl, _⟩ := h
    rfl
  · obtain ⟨z, dx, p, f, b, rfl, hz, q⟩ := h
    refine ⟨_, (pss_one (ps_ret (pe_op op_add (pe_fld (pv 0) rfl) (pe_op op_mul (pe_con rfl T.k_FILES) (pe_con rfl T.k_FILE_PAGES))))), ?_⟩
    exact ⟨_, rfl, z, _, dx, _, _, rfl, hz, T.c_Sizes, T.n_Sizes__file_blocks, rfl, _, _, rfl, rfl, .inl ⟨by decide, by decide⟩, _, _, rfl, rfl, q⟩
theorem ok_first_values (T : Txt w K mg a) : FnOk P w K mg base CX0 1 a.f_first_values a.d_first_values ["sizes"] (spFirst a.C_Sizes) := by
  refine T.F_first_values.ok sc_first_values (fun vs H Q E h => ?_) (fun cdv A outer s H vs Q E hr h => ?_)
  · obtain ⟨z, dx, p, f, b, rfl, _⟩ := h
    rfl
  · obtain ⟨z, dx, p, f, b, rfl, hz, okS, q⟩ := h
    refine ⟨_, (pss_cons (ps_set (i := 1) sc_first_values.nd rfl (Or.inl rfl) (pe_op op_rep (pe_lst (pa_cons pe_int pa_nil)) (pe_op op_add pe_int (pe_fld (pv 0) rfl))))
    (pss_cons (ps_set (i := 2) sc_first_values.nd rfl (Or.inl rfl) (pe_op op_rep (pe_lst (pa_cons pe_non pa_nil)) (pe_op op_mul (pe_con rfl T.k_SPACES) (pe_con rfl T.k_PAGES))))
    (pss_cons (ps_set (i := 3) sc_first_values.nd rfl (Or.inl rfl) (pe_op op_rep (pe_lst (pa_cons pe_int pa_nil)) (pe_op op_mul (pe_con rfl T.k_CELLS) (pe_fld (pv 0) rfl))))
    (pss_cons (ps_set (i := 4) sc_first_values.nd rfl (Or.inl rfl) (pe_op op_rep (pe_lst (pa_cons (pe_tup (pa_cons pe_int (pa_cons pe_int pa_nil))) pa_nil)) (pe_op op_add (pe_fld (pv 0) rfl) (pe_op op_mul (pe_con rfl T.k_FILES) (pe_con rfl T.k_FILE_PAGES)))))
    (pss_one (ps_ret (pe_op op_cat (pe_op op_cat (pe_op op_cat (pv 1) (pv 2)) (pv 3)) (pv 4)))))))), ?_⟩
    obtain ⟨⟨p0, p1⟩, ⟨f0, f1⟩, ⟨b0, b1⟩⟩ := okSz_at okS
    have small : ∀ n : Nat, n ≤ 1000 → n ≤ sizeLine := fun n h => Nat.le_trans h (by decide)
    refine ⟨(by show 1 ≤ sizeLine; decide), fun l1 h1 => ?_⟩
    have e1 := Same.new (o := .lst [.int 0]) h1
    refine ⟨_, rfl, z, _, dx, _, _, rfl, e1 _ _ hz, T.c_Sizes, T.n_Sizes_processors, rfl, _, _, rfl, rfl, l1, _, _, rfl, rfl, upd_same, by omega, by omega, small _ (by simp; omega), fun l2 h2 => ?_⟩
    have hz2 := (Same.new (o := .lst (List.replicate (1 + p).toNat [V.int 0]).flatten) h2) _ _ (e1 _ _ hz)
    have hl2 : upd (upd H l1 (.lst [.int 0])) l2 (.lst (List.replicate (1 + p).toNat [V.int 0]).flatten) l2 = some (.lst (List.replicate (1 + p).toNat (V.int 0))) := by rw [upd_same, List.flatten_replicate_singleton]
    have s2 := e1.trans (Same.new (o := .lst (List.replicate (1 + p).toNat [V.int 0]).flatten) h2)
    generalize upd (upd H l1 (.lst [.int 0])) l2 (.lst (List.replicate (1 + p).toNat [V.int 0]).flatten) = H2 at hz2 hl2 s2 ⊢
    refine ⟨(by show 1 ≤ sizeLine; decide), fun l3 h3 => ?_⟩
    have e3 := Same.new (o := .lst [.non]) h3
    refine ⟨_, _, rfl, rfl, .inl ⟨by decide, by decide⟩, l3, _, _, rfl, rfl, upd_same, by decide, by decide, small _ (by simp), fun l4 h4 => ?_⟩
    have e4 := Same.new (o := .lst (List.replicate (4 * 8 : Int).toNat [V.non]).flatten) h4
    have hl4 : upd (upd H2 l3 (.lst [.non])) l4 (.lst (List.replicate (4 * 8 : Int).toNat [V.non]).flatten) l4 = some (.lst (List.replicate 32 V.non)) := by rw [upd_same, List.flatten_replicate_singleton]; rfl
    have s4 := s2.trans (e3.trans e4)
    have hz4 := (e3.trans e4) _ _ hz2
    have hl24 := (e3.trans e4) _ _ hl2
    generalize upd (upd H2 l3 (.lst [.non])) l4 (.lst (List.replicate (4 * 8 : Int).toNat [V.non]).flatten) = H4 at s4 hz4 hl4 hl24 ⊢
    refine ⟨(by show 1 ≤ sizeLine; decide), fun l5 h5 => ?_⟩
    have e5 := Same.new (o := .lst [.int 0]) h5
    refine ⟨_, rfl, z, _, dx, _, _, rfl, e5 _ _ hz4, T.c_Sizes, T.n_Sizes_frames, rfl, _, _, rfl, rfl, .inl ⟨by decide, by decide⟩, l5, _, _, rfl, rfl, upd_same, by omega, by omega, small _ (by simp; omega), fun l6 h6 => ?_⟩
    have e6 := Same.new (o := .lst (List.replicate (2 * f).toNat [V.int 0]).flatten) h6
    have hl6 : upd (upd H4 l5 (.lst [.int 0])) l6 (.lst (List.replicate (2 * f).toNat [V.int 0]).flatten) l6 = some (.lst (List.replicate (2 * f).toNat (V.int 0))) := by rw [upd_same, List.flatten_replicate_singleton]
    have s6 := s4.trans (e5.trans e6)
    have hz6 := (e5.trans e6) _ _ hz4
    have hl26 := (e5.trans e6) _ _ hl24
    have hl46 := (e5.trans e6) _ _ hl4
    generalize upd (upd H4 l5 (.lst [.int 0])) l6 (.lst (List.replicate (2 * f).toNat [V.int 0]).flatten) = H6 at s6 hz6 hl6 hl26 hl46 ⊢
    refine ⟨(by show 2 ≤ sizeLine; decide), fun t ht => ⟨(by show 1 ≤ sizeLine; decide), fun l7 h7 => ?_⟩⟩
    have e7 := (Same.new (o := .tup [.int 0, .int 0]) ht).trans (Same.new (o := .lst [.ref t]) h7)
    have ht7 : upd (upd H6 t (.tup [.int 0, .int 0])) l7 (.lst [.ref t]) t = some (.tup [.int 0, .int 0]) := (Same.new h7) _ _ upd_same
    refine ⟨_, rfl, z, _, dx, _, _, rfl, e7 _ _ hz6, T.c_Sizes, T.n_Sizes_blocks, rfl, _, _, rfl, rfl, .inl ⟨by decide, by decide⟩, _, _, rfl, rfl, l7, _, _, rfl, rfl, upd_same, by omega, by omega, small _ (by simp; omega), fun l8 h8 => ?_⟩
    have e8 := Same.new (o := .lst (List.replicate (b + 2 * 4).toNat [V.ref t]).flatten) h8
    have hl8 : upd (upd (upd H6 t (.tup [.int 0, .int 0])) l7 (.lst [.ref t])) l8 (.lst (List.replicate (b + 2 * 4).toNat [V.ref t]).flatten) l8 = some (.lst (List.replicate (b + 8).toNat (V.ref t))) := by rw [upd_same, List.flatten_replicate_singleton]; rfl
    have s8 := s6.trans (e7.trans e8)
    have hl28 := (e7.trans e8) _ _ hl26
    have hl48 := (e7.trans e8) _ _ hl46
    have hl68 := (e7.trans e8) _ _ hl6
    have ht8 := e8 _ _ ht7
    generalize upd (upd (upd H6 t (.tup [.int 0, .int 0])) l7 (.lst [.ref t])) l8 (.lst (List.replicate (b + 2 * 4).toNat [V.ref t]).flatten) = H8 at s8 hl8 hl28 hl48 hl68 ht8 ⊢
    refine ⟨_, rfl, _, rfl, l2, l4, _, _, rfl, rfl, hl28, hl48, small _ (by simp; omega), fun l9 h9 => ?_⟩
    have e9 := Same.new (o := .lst (List.replicate (1 + p).toNat (V.int 0) ++ List.replicate 32 V.non)) h9
    refine ⟨_, rfl, l9, l6, _, _, rfl, rfl, upd_same, e9 _ _ hl68, small _ (by simp; omega), fun l10 h10 => ?_⟩
    have e10 := Same.new (o := .lst (List.replicate (1 + p).toNat (V.int 0) ++ List.replicate 32 V.non ++ List.replicate (2 * f).toNat (V.int 0))) h10
    refine ⟨_, rfl, l10, l8, _, _, rfl, rfl, upd_same, e10 _ _ (e9 _ _ hl8), small _ (by simp; omega), fun l11 h11 => ?_⟩
    have e11 := Same.new (o := .lst (firstV p f b t)) h11
    exact q _ t l11 ((s8.trans e9).trans (e10.trans e11)) ((s8.trans (e9.trans e10)).free h11) (e11 _ _ (e10 _ _ (e9 _ _ ht8))) upd_same
theorem ok_Memory_peek (T : Txt w K mg a) : FnOk P w K mg base (L2.CX P w) 4 a.f_Memory_peek a.d_Memory_peek ["self", "cell"] (spPeek K ⟨a.C_Memory, a.C_Sizes, a.C_Buffer, a.C_Box⟩ a.C_NotValid) := by
  refine T.F_Memory_peek.okX sc_Memory_peek (fun vs H Q E h => ?_) (fun cdv A outer s H vs Q E hr h => ?_)
  · obtain ⟨x, st, c, rfl, _⟩ := h
    rfl
  · obtain ⟨x, st, c, rfl, hM, yes, no⟩ := h
    refine ⟨_, (pss_cons (ps_if (pt_not (pt_val (pe_call (ok_is_number_below T) (hr.mono (by decide)) rfl T.m_is_number_below T.F_is_number_below.kp T.B_is_number_below .nil pass0 (pa_cons (pv 1) (pa_cons (pe_meth0 (pe_fld (pv 0) rfl) T.c_Sizes T.M_Sizes_cells (ok_Sizes_cells T) (hr.mono (by decide)) T.B_Sizes_cells .nil pass0) pa_nil))))) (pss_one (ps_raise rfl (takes_of rfl rfl rfl rfl) (mk_exc0 T.x_NotValid T.xi_NotValid T.xt_NotValid (ok_PageError_init T) (hr.mono (by decide)) T.B_PageError_init pass0 rfl T.m_NotValid))) pss_nil)
    (pss_one (ps_ret (pe_ix ix_list (pe_fld (pv 0) rfl) (pv 1) (fun _ _ => rfl))))), ?_⟩
    obtain ⟨vs, hc, hd⟩ := hM.cells
    refine ⟨_, rfl, _, rfl, x.m, _, x.dx, _, _, rfl, hM.ins, T.c_Memory, T.n_Memory_sizes, rfl, x.z, x.dz, _, rfl, hM.sz, rfl, x.z, x.dz, x.p, x.f, x.b, rfl, hM.sz, _, .int c, _, rfl, .int c, _, rfl, ?_⟩
    by_cases k : 0 ≤ c ∧ c < cellsN x.p x.f x.b
    · have e : belowD (.int c) (cellsN x.p x.f x.b) = true := by simp only [belowD, decide_eq_true k.1, decide_eq_true k.2, Bool.and_self]
      rw [e]
      obtain ⟨j, ej⟩ : ∃ j : Nat, c = (j : Int) := ⟨c.toNat, by omega⟩
      subst ej
      have lc := hM.lenC
      have lv := dpAll_len hd
      have hj : j < vs.length := by omega
      obtain ⟨d, h1, h2⟩ := dpAll_get hd (List.getElem?_eq_getElem hj)
      exact iteF ⟨_, rfl, x.m, _, x.dx, _, _, rfl, hM.ins, T.c_Memory, T.n_Memory__cells, rfl, _, rfl, x.cl, _, _, _, rfl, rfl, SqL.of hc, at_nat (List.getElem?_eq_getElem hj), yes j rfl _ d h1 h2⟩
    · have e : belowD (.int c) (cellsN x.p x.f x.b) = false := by
        simp only [belowD, Bool.and_eq_false_iff, decide_eq_false_iff_not]
        by_cases z : 0 ≤ c
        · exact .inr fun k2 => k ⟨z, k2⟩
        · exact .inl z
      rw [e]
      refine iteT fun y hy => ⟨y, a.C_NotValid, rfl, T.x_NotValid, upd_same, rfl, upd_same, ?_⟩
      refine no k _ fun b2 u h2 => ?_
      have ne := ne_of_none h2 hy
      rw [del_ne ne, upd_ne ne]
      exact h2

theorem ok_Memory_init (T : Txt w K mg a) : FnOk P w K mg base CX0 3 a.f_Memory_init a.d_Memory_init ["self", "sizes"] (spMemInit8 K ⟨a.C_Memory, a.C_Sizes, a.C_Buffer, a.C_Box⟩) := by
  refine T.F_Memory_init.ok sc_Memory_init (fun vs H Q E h => ?_) (fun cdv A outer s H vs Q E hr h => ?_)
  · obtain ⟨m, dx, z, dz, p, f, b, rfl, _⟩ := h
    rfl
  · obtain ⟨m, dx, z, dz, p, f, b, rfl, hm, hz, okS, q⟩ := h
    refine ⟨_, (pss_cons (ps_fld (pv 0) (pv 1) rfl)
    (pss_cons (ps_fld (pv 0) pe_int rfl)
    (pss_cons (ps_fld (pv 0) (pe_lc (own := [("_", 2)]) (g := gName 2) (tt := tYes) rfl sc_Memory_init.nd (pi_range1 rfl T.b_range (pa_cons (pe_fld (pv 1) rfl) pa_nil)) (blkOk_by (own := [("_", 2)]) (N := ["self", "sizes", "_"]) (sc := defScope s_Memory_init) (by decide +kernel)) (fun _ _ _ _ _ => (pg_name (i := 2) sc_Memory_init.nd rfl (Or.inl rfl))) (fun _ _ _ _ _ => pts_nil) (fun _ _ _ _ _ => (pe_make0 T.mk_Buffer (ok_Buffer_init T) (hr.mono (by decide)) rfl T.m_Buffer T.B_Buffer_init .nil pass0))) rfl)
    (pss_cons (ps_fld (pv 0) (pe_lc (own := [("_", 2)]) (g := gName 2) (tt := tYes) rfl sc_Memory_init.nd (pi_range1 rfl T.b_range (pa_cons (pe_fld (pv 1) rfl) pa_nil)) (blkOk_by (own := [("_", 2)]) (N := ["self", "sizes", "_"]) (sc := defScope s_Memory_init) (by decide +kernel)) (fun _ _ _ _ _ => (pg_name (i := 2) sc_Memory_init.nd rfl (Or.inl rfl))) (fun _ _ _ _ _ => pts_nil) (fun _ _ _ _ _ => (pe_make0 T.mk_Box (ok_Box_init T) (hr.mono (by decide)) rfl T.m_Box T.B_Box_init .nil pass0))) rfl)
    (pss_cons (ps_fld (pv 0) (pe_call (ok_first_values T) (hr.mono (by decide)) rfl T.m_first_values T.F_first_values.kp T.B_first_values .nil pass0 (pa_cons (pv 1) pa_nil)) rfl)
    (pss_one (ps_fld (pv 0) (pe_lst pa_nil) rfl))))))), ?_⟩
    obtain ⟨⟨p0, p1⟩, _, _⟩ := okSz_at okS
    have nzm : z ≠ m := fun e => by
      rw [e, hm] at hz
      injection hz with hz
      injection hz with _ _ hz
      cases hz
    refine ⟨_, rfl, _, rfl, m, a.C_Memory, dx, _, rfl, hm, T.c_Memory, T.n_Memory_sizes, (by show 0 < 1000; decide), ?_⟩
    refine ⟨_, rfl, m, a.C_Memory, dx, _, rfl, upd_same, T.c_Memory, T.n_Memory_count, (by show 1 < 1000; decide), ?_⟩
    have g2 : ∃ H2, H2 = upd (upd H m (.ins a.C_Memory dx [("sizes", .ref z)])) m (.ins a.C_Memory dx [("sizes", .ref z), ("count", .int 0)]) := ⟨_, rfl⟩
    obtain ⟨H2, e2⟩ := g2
    change tSeq _ _ _ _ (upd (upd H m (.ins a.C_Memory dx [("sizes", .ref z)])) m (.ins a.C_Memory dx [("sizes", .ref z), ("count", .int 0)]))
    rw [← e2]
    have hm2 : H2 m = some (.ins a.C_Memory dx [("sizes", .ref z), ("count", .int 0)]) := by rw [e2]; exact upd_same
    have sb2 : SameBut m H H2 := by
      rw [e2]
      exact fun x o nx hx => (upd_ne nx).trans ((upd_ne nx).trans hx)
    have fr2 : ∀ {x : Addr}, H2 x = none → H x = none := fun {x} hx => by
      cases e : H x with
      | none => rfl
      | some u =>
        by_cases xm : x = m
        · rw [xm, hm2] at hx
          cases hx
        · rw [sb2 _ _ xm e] at hx
          cases hx
    have hz2 := sb2 _ _ nzm hz
    clear e2
    -- buffers
    refine ⟨_, rfl, z, _, dz, _, _, rfl, hz2, T.c_Sizes, T.n_Sizes_processors, rfl, _, rfl, by omega, by omega, fun D hD => ?_⟩
    refine lc_range (lo := 0) (n := p.toNat) (fun i H' => ∃ bs : List (Addr × Addr), H' D = some (.lst (bs.map fun y => V.ref y.1)) ∧ Same H2 H' ∧ bs.length = i ∧ (bs.map fun y => y.1).Nodup ∧ i ≤ 3 ∧ ∀ y ∈ bs, H2 y.1 = none ∧ ∃ l, l ≠ D ∧ H2 l = none ∧ BufAt a.C_Buffer H' y.1 y.2 l [])
      ⟨[], upd_same, Same.new hD, rfl, List.nodup_nil, Nat.zero_le _, fun _ h => absurd h List.not_mem_nil⟩ ?_ ?_
    · rintro i H' hi ⟨bs, hDD, eS, el, nd, i3, hb⟩
      refine ⟨rfl, fun x dx nx ndx nxd => ⟨x, dx, rfl, upd_same, fun H3 l s3 fl hB => ⟨rfl, bs.map (fun y => V.ref y.1), ?_, ?_, bs ++ [(x, dx)], ?_, ?_, ?_, ?_, by omega, ?_⟩⟩⟩
      all_goals
        have old : ∀ {c : Addr} {u : HO}, H' c = some u → H3 c = some u := fun {c u} h => by
          have n1 : c ≠ x := ne_of_none h nx
          have n2 : c ≠ dx := ne_of_none h ndx
          exact s3 _ _ n1 (by rw [upd_ne n1, upd_ne n2]; exact h)
      · exact old hDD
      · rw [List.length_map, el]
        exact Nat.lt_of_le_of_lt i3 (by decide)
      · rw [upd_same, List.map_append]
        rfl
      · exact fun c u h => by
          have h1 := eS _ _ h
          have nD : c ≠ D := ne_of_none h hD
          rw [upd_ne nD]
          exact old h1
      · rw [List.length_append, List.length_singleton, el]
      · rw [List.map_append]
        refine List.nodup_append.mpr ⟨nd, by simp, fun c hc y hy => ?_⟩
        simp at hy
        subst hy
        obtain ⟨u, hu, rfl⟩ := List.mem_map.mp hc
        obtain ⟨_, l2, _, _, h2⟩ := hb u hu
        exact ne_of_none h2.ins nx
      · intro y hy
        rcases List.mem_append.mp hy with hy | hy
        · obtain ⟨h1, l2, n2, nf, h2⟩ := hb y hy
          refine ⟨h1, l2, n2, nf, ?_, ?_⟩
          · rw [upd_ne (ne_of h2.ins hDD (fun z => nomatch z))]
            exact old h2.ins
          · rw [upd_ne n2]
            exact old h2.lst
        · rw [List.mem_singleton.mp hy]
          have nxD : x ≠ D := fun z => by rw [z, hDD] at nx; cases nx
          have nlD : l ≠ D := fun z => by
            have nDx : D ≠ x := Ne.symm nxD
            have nDd : D ≠ dx := fun z => by rw [← z, hDD] at ndx; cases ndx
            rw [z, upd_ne nDx, upd_ne nDd, hDD] at fl
            cases fl
          have nlx : l ≠ x := fun z => by rw [z, upd_same] at fl; cases fl
          have nldx : l ≠ dx := fun z => by rw [z, upd_ne nxd, upd_same] at fl; cases fl
          have flH : H' l = none := by rw [upd_ne nlx, upd_ne nldx] at fl; exact fl
          exact ⟨eS.free nx, l, nlD, eS.free flH, ⟨(upd_ne nxD).trans hB.ins, (upd_ne nlD).trans hB.lst⟩⟩
    rintro H3 ⟨bs, hDD, eS, el, nd, i3, hb⟩
    have nDm : D ≠ m := fun e => by rw [e, hm2] at hD; cases hD
    refine ⟨_, rfl, m, a.C_Memory, dx, _, rfl, eS _ _ hm2, T.c_Memory, T.n_Memory_buffers, (by show 2 < 1000; decide), ?_⟩
    obtain ⟨H4, e4⟩ : ∃ H4, H4 = upd H3 m (.ins a.C_Memory dx [("sizes", .ref z), ("count", .int 0), ("buffers", .ref D)]) := ⟨_, rfl⟩
    change tSeq _ _ _ _ (upd H3 m (.ins a.C_Memory dx [("sizes", .ref z), ("count", .int 0), ("buffers", .ref D)]))
    rw [← e4]
    have hm4 : H4 m = some (.ins a.C_Memory dx [("sizes", .ref z), ("count", .int 0), ("buffers", .ref D)]) := by rw [e4]; exact upd_same
    have sb4 : SameBut m H2 H4 := by
      rw [e4]
      exact fun x o nx hx => (upd_ne nx).trans (eS _ _ hx)
    have hD4 : H4 D = some (.lst (bs.map fun y => V.ref y.1)) := by rw [e4, upd_ne nDm]; exact hDD
    have hb4 : ∀ y ∈ bs, H2 y.1 = none ∧ y.1 ≠ m ∧ ∃ l, l ≠ D ∧ H2 l = none ∧ BufAt a.C_Buffer H4 y.1 y.2 l [] := fun y hy => by
      obtain ⟨h1, l, h2, nf, h3⟩ := hb y hy
      have n1 : y.1 ≠ m := fun e => by rw [e, hm2] at h1; cases h1
      have n2 : l ≠ m := ne_of h3.lst (eS _ _ hm2) (fun z => nomatch z)
      exact ⟨h1, n1, l, h2, nf, ⟨by rw [e4, upd_ne n1]; exact h3.ins, by rw [e4, upd_ne n2]; exact h3.lst⟩⟩
    have hz4 := sb4 _ _ nzm hz2
    have fr4 : ∀ {x : Addr}, H4 x = none → H2 x = none := fun {x} hx => by
      cases e : H2 x with
      | none => rfl
      | some u =>
        by_cases xm : x = m
        · rw [xm, hm4] at hx
          cases hx
        · rw [sb4 _ _ xm e] at hx
          cases hx
    clear e4 hb hDD eS
    -- boxes
    refine ⟨_, rfl, z, _, dz, _, _, rfl, hz4, T.c_Sizes, T.n_Sizes_processors, rfl, _, rfl, by omega, by omega, fun D2 hD2 => ?_⟩
    refine lc_range (lo := 0) (n := p.toNat) (fun i H' => ∃ xs : List (Addr × Addr × Addr), H' D2 = some (.lst (xs.map fun y => V.ref y.1)) ∧ Same H4 H' ∧ xs.length = i ∧ (xs.map fun y => y.2.2).Nodup ∧ i ≤ 3 ∧ ∀ y ∈ xs, H4 y.2.2 = none ∧ y.2.2 ≠ D2 ∧ BoxAt a.C_Box H' y.1 y.2.1 y.2.2 [])
      ⟨[], upd_same, Same.new hD2, rfl, List.nodup_nil, Nat.zero_le _, fun _ h => absurd h List.not_mem_nil⟩ ?_ ?_
    · rintro i H' hi ⟨xs, hDD, eS, el2, nd2, i32, hb⟩
      refine ⟨rfl, fun x dx nx ndx nxd => ⟨x, dx, rfl, upd_same, fun H3 l s3 fl hB => ⟨rfl, xs.map (fun y => V.ref y.1), ?_, ?_, xs ++ [(x, dx, l)], ?_, ?_, ?_, ?_, by omega, ?_⟩⟩⟩
      all_goals
        have old : ∀ {c : Addr} {u : HO}, H' c = some u → H3 c = some u := fun {c u} h => by
          have n1 : c ≠ x := ne_of_none h nx
          have n2 : c ≠ dx := ne_of_none h ndx
          exact s3 _ _ n1 (by rw [upd_ne n1, upd_ne n2]; exact h)
      all_goals
        have nlx : l ≠ x := fun z => by rw [z, upd_same] at fl; cases fl
      all_goals
        have nldx : l ≠ dx := fun z => by rw [z, upd_ne nxd, upd_same] at fl; cases fl
      all_goals
        have flH : H' l = none := by rw [upd_ne nlx, upd_ne nldx] at fl; exact fl
      · exact old hDD
      · rw [List.length_map, el2]
        exact Nat.lt_of_le_of_lt i32 (by decide)
      · rw [upd_same, List.map_append]
        rfl
      · exact fun c u h => by
          have h1 := eS _ _ h
          have nD : c ≠ D2 := ne_of_none h hD2
          rw [upd_ne nD]
          exact old h1
      · rw [List.length_append, List.length_singleton, el2]
      · rw [List.map_append]
        refine List.nodup_append.mpr ⟨nd2, by simp, fun c hc y hy => ?_⟩
        simp at hy
        subst hy
        obtain ⟨u, hu, rfl⟩ := List.mem_map.mp hc
        obtain ⟨_, _, h2⟩ := hb u hu
        exact ne_of_none h2.lst flH
      · intro y hy
        rcases List.mem_append.mp hy with hy | hy
        · obtain ⟨h1, n2, h2⟩ := hb y hy
          refine ⟨h1, n2, ?_, ?_⟩
          · rw [upd_ne (ne_of h2.ins hDD (fun z => nomatch z))]
            exact old h2.ins
          · rw [upd_ne n2]
            exact old h2.lst
        · rw [List.mem_singleton.mp hy]
          have nxD : x ≠ D2 := fun z => by rw [z, hDD] at nx; cases nx
          have nlD : l ≠ D2 := fun z => by rw [z, hDD] at flH; cases flH
          exact ⟨eS.free flH, nlD, ⟨(upd_ne nxD).trans hB.ins, (upd_ne nlD).trans hB.lst⟩⟩
    rintro H5 ⟨xs, hDD2, eS5, el2, nd2, i32, hx5⟩
    have nDm2 : D2 ≠ m := fun e => by rw [e, hm4] at hD2; cases hD2
    have nDD : D ≠ D2 := fun e => by rw [← e, hD4] at hD2; cases hD2
    refine ⟨_, rfl, m, a.C_Memory, dx, _, rfl, eS5 _ _ hm4, T.c_Memory, T.n_Memory_boxes, (by show 3 < 1000; decide), ?_⟩
    obtain ⟨H6, e6⟩ : ∃ H6, H6 = upd H5 m (.ins a.C_Memory dx [("sizes", .ref z), ("count", .int 0), ("buffers", .ref D), ("boxes", .ref D2)]) := ⟨_, rfl⟩
    change tSeq _ _ _ _ (upd H5 m (.ins a.C_Memory dx [("sizes", .ref z), ("count", .int 0), ("buffers", .ref D), ("boxes", .ref D2)]))
    rw [← e6]
    have hm6 : H6 m = some (.ins a.C_Memory dx [("sizes", .ref z), ("count", .int 0), ("buffers", .ref D), ("boxes", .ref D2)]) := by rw [e6]; exact upd_same
    have sb6 : SameBut m H4 H6 := by
      rw [e6]
      exact fun x o nx hx => (upd_ne nx).trans (eS5 _ _ hx)
    have hD6 : H6 D = some (.lst (bs.map fun y => V.ref y.1)) := sb6 _ _ nDm hD4
    have hD26 : H6 D2 = some (.lst (xs.map fun y => V.ref y.1)) := by rw [e6, upd_ne nDm2]; exact hDD2
    have hb6 : ∀ y ∈ bs, H2 y.1 = none ∧ y.1 ≠ m ∧ ∃ l, ((∃ vs, H4 l = some (.lst vs)) ∧ H2 l = none) ∧ BufAt a.C_Buffer H6 y.1 y.2 l [] := fun y hy => by
      obtain ⟨h1, n1, l, h2, nf, h3⟩ := hb4 y hy
      have n2 : l ≠ m := ne_of h3.lst hm4 (fun z => nomatch z)
      exact ⟨h1, n1, l, ⟨⟨_, h3.lst⟩, nf⟩, ⟨sb6 _ _ n1 h3.ins, sb6 _ _ n2 h3.lst⟩⟩
    have hx6 : ∀ y ∈ xs, H4 y.2.2 = none ∧ y.2.2 ≠ D2 ∧ BoxAt a.C_Box H6 y.1 y.2.1 y.2.2 [] := fun y hy => by
      obtain ⟨h1, h2, h3⟩ := hx5 y hy
      have n1 : y.1 ≠ m := fun e => by
        have h4 := h3.ins
        rw [e, eS5 _ _ hm4] at h4
        injection h4 with h4
        injection h4 with _ _ h4
        injection h4 with h4 h5
        cases h5
      have n2 : y.2.2 ≠ m := ne_of h3.lst (eS5 _ _ hm4) (fun z => nomatch z)
      exact ⟨h1, h2, ⟨by rw [e6, upd_ne n1]; exact h3.ins, by rw [e6, upd_ne n2]; exact h3.lst⟩⟩
    have hz6 := sb6 _ _ nzm hz4
    have fr6 : ∀ {x : Addr}, H6 x = none → H4 x = none := fun {x} hx => by
      cases e : H4 x with
      | none => rfl
      | some u =>
        by_cases xm : x = m
        · rw [xm, hm6] at hx
          cases hx
        · rw [sb6 _ _ xm e] at hx
          cases hx
    clear e6 hx5 hDD2 eS5 hb4
    -- cells
    refine ⟨_, rfl, z, dz, p, f, b, rfl, hz6, okS, fun H7 t cl e7 fcl ht7 hcl => ?_⟩
    have nclm : cl ≠ m := fun e => by rw [e, hm6] at fcl; cases fcl
    refine ⟨_, rfl, m, a.C_Memory, dx, _, rfl, e7 _ _ hm6, T.c_Memory, T.n_Memory__cells, (by show 4 < 1000; decide), ?_⟩
    have hm8 : upd H7 m (.ins a.C_Memory dx [("sizes", .ref z), ("count", .int 0), ("buffers", .ref D), ("boxes", .ref D2), ("_cells", .ref cl)]) m = some (.ins a.C_Memory dx [("sizes", .ref z), ("count", .int 0), ("buffers", .ref D), ("boxes", .ref D2), ("_cells", .ref cl)]) := upd_same
    refine ⟨Nat.zero_le _, fun lg hlg => ?_⟩
    change upd H7 m (.ins a.C_Memory dx [("sizes", .ref z), ("count", .int 0), ("buffers", .ref D), ("boxes", .ref D2), ("_cells", .ref cl)]) lg = none at hlg
    have nlgm : m ≠ lg := ne_of_none hm8 hlg
    have hlg7 : H7 lg = none := (upd_ne (Ne.symm nlgm)).symm.trans hlg
    refine ⟨_, rfl, m, a.C_Memory, dx, _, rfl, (upd_ne nlgm).trans hm8, T.c_Memory, T.n_Memory__log, (by show 5 < 1000; decide), ?_⟩
    have keep : ∀ {c : Addr} {u : HO}, c ≠ m → H6 c = some u → upd (upd (upd H7 m (.ins a.C_Memory dx [("sizes", .ref z), ("count", .int 0), ("buffers", .ref D), ("boxes", .ref D2), ("_cells", .ref cl)])) lg (.lst [])) m
        (.ins a.C_Memory dx [("sizes", .ref z), ("count", .int 0), ("buffers", .ref D), ("boxes", .ref D2), ("_cells", .ref cl), ("_log", .ref lg)]) c = some u := fun {c u} nc h => by
      have h7 := e7 _ _ h
      rw [upd_ne nc, upd_ne (ne_of_none h7 hlg7), upd_ne nc]
      exact h7
    have lD : D ≠ m := nDm
    have ncl : H6 cl = none := fcl
    have nlg6 : H6 lg = none := e7.free hlg7
    have nTm : t ≠ m := fun e => by
      have := e7 _ _ hm6
      rw [← e, ht7] at this
      cases this
    have nclg : cl ≠ lg := fun e => by rw [← e, hcl] at hlg7; cases hlg7
    have ntlg : t ≠ lg := fun e => by rw [← e, ht7] at hlg7; cases hlg7
    have tT : upd (upd (upd H7 m (.ins a.C_Memory dx [("sizes", .ref z), ("count", .int 0), ("buffers", .ref D), ("boxes", .ref D2), ("_cells", .ref cl)])) lg (.lst [])) m
        (.ins a.C_Memory dx [("sizes", .ref z), ("count", .int 0), ("buffers", .ref D), ("boxes", .ref D2), ("_cells", .ref cl), ("_log", .ref lg)]) t = some (.tup [.int 0, .int 0]) := by
      rw [upd_ne nTm, upd_ne ntlg, upd_ne nTm]
      exact ht7
    have clL : upd (upd (upd H7 m (.ins a.C_Memory dx [("sizes", .ref z), ("count", .int 0), ("buffers", .ref D), ("boxes", .ref D2), ("_cells", .ref cl)])) lg (.lst [])) m
        (.ins a.C_Memory dx [("sizes", .ref z), ("count", .int 0), ("buffers", .ref D), ("boxes", .ref D2), ("_cells", .ref cl), ("_log", .ref lg)]) cl = some (.lst (firstV p f b t)) := by
      rw [upd_ne nclm, upd_ne nclg, upd_ne nclm]
      exact hcl
    have pn : p.toNat = bs.length := el.symm
    have pn2 : p.toNat = xs.length := el2.symm
    have frsh : ∀ c ∈ D :: D2 :: cl :: lg :: ((bs.map fun y => y.1) ++ xs.map fun y => y.2.2), H c = none := by
      intro c hc
      rcases List.mem_cons.mp hc with e | hc
      · rw [e]; exact fr2 hD
      rcases List.mem_cons.mp hc with e | hc
      · rw [e]; exact fr2 (fr4 hD2)
      rcases List.mem_cons.mp hc with e | hc
      · rw [e]; exact fr2 (fr4 (fr6 fcl))
      rcases List.mem_cons.mp hc with e | hc
      · rw [e]; exact fr2 (fr4 (fr6 nlg6))
      rcases List.mem_append.mp hc with hc | hc
      · obtain ⟨y, hy, rfl⟩ := List.mem_map.mp hc
        exact fr2 (hb6 y hy).1
      · obtain ⟨y, hy, rfl⟩ := List.mem_map.mp hc
        exact fr2 (fr4 (hx6 y hy).1)
    refine q _ ⟨m, dx, z, dz, D, D2, cl, lg, p, f, b, bs, xs⟩ rfl rfl rfl rfl rfl rfl rfl (fun c u nc h => keep nc (sb6 _ _ nc (sb4 _ _ nc (sb2 _ _ nc h)))) frsh ?_ (fun c u hc nc => ⟨fun hm => (by
        have : H c = none := frsh c (by
          simp only [List.mem_cons, List.mem_append] at hm ⊢
          rcases hm with h | h | h | h | h
          · exact .inl h
          · exact .inr (.inl h)
          · exact .inr (.inr (.inl h))
          · exact .inr (.inr (.inr (.inl h)))
          · exact .inr (.inr (.inr (.inr (.inr h)))))
        rw [hc] at this
        cases this), fun y hy D e l hl ec => by
        obtain ⟨_, n1, l0, ⟨_, nf⟩, h3⟩ := hb6 y hy
        have h4 := hl.symm.trans (keep n1 h3.ins)
        injection h4 with h4
        injection h4 with _ _ h4
        injection h4 with h4 _
        injection h4 with _ h4
        injection h4 with h4
        have h5 := fr2 nf
        rw [← h4, ec, hc] at h5
        cases h5⟩)
    · exact {
        ins := upd_same
        sz := keep nzm hz6
        okS := okS
        bl := keep nDm hD6
        xl := keep nDm2 hD26
        cells := ⟨_, clL, first_dp p f b tT⟩
        log := ⟨[], by rw [upd_ne (Ne.symm nlgm)]; exact upd_same, .nil⟩
        buf := fun i y es h1 h2 => by
          have ee : es = [] := List.eq_of_mem_replicate (mem_of_get h2)
          subst ee
          obtain ⟨_, n1, l, ⟨⟨vs4, h4⟩, _⟩, h3⟩ := hb6 y (mem_of_get h1)
          refine ⟨l, [], ⟨keep n1 h3.ins, keep (ne_of h3.lst hm6 (fun z => nomatch z)) h3.lst⟩, .nil _, rfl, fun z => ?_⟩
          rcases List.mem_cons.mp z with e | z
          · have := fr6 fcl
            have e2 : l = cl := e
            rw [← e2, h4] at this
            cases this
          rcases List.mem_cons.mp z with e | z
          · have := fr6 nlg6
            have e2 : l = lg := e
            rw [← e2, h4] at this
            cases this
          · obtain ⟨u, hu, e⟩ := List.mem_map.mp z
            have := (hx6 u hu).1
            rw [e, h4] at this
            cases this
        box := fun i y ls h1 h2 => by
          have ee : ls = [] := List.eq_of_mem_replicate (mem_of_get h2)
          subst ee
          obtain ⟨_, _, h3⟩ := hx6 y (mem_of_get h1)
          refine ⟨[], ⟨keep (fun e => ?_) h3.ins, keep (ne_of h3.lst hm6 (fun z => nomatch z)) h3.lst⟩, .nil⟩
          have h4 := h3.ins
          rw [e, hm6] at h4
          injection h4 with h4
          injection h4 with _ _ h4
          injection h4 with h4 h5
          cases h5
        lenC := first_len okS
        lenB := ⟨by show (bs.length : Int) = p; omega, by show (List.replicate p.toNat []).length = bs.length; rw [List.length_replicate]; exact pn⟩
        lenX := ⟨by show (xs.length : Int) = p; omega, by show (List.replicate p.toNat []).length = xs.length; rw [List.length_replicate]; exact pn2⟩
        lenL := rfl
        shC := fun d hd => by
          have hd2 : d ∈ firstD p f b := hd
          unfold firstD at hd2
          rcases List.mem_append.mp hd2 with hd2 | hd2
          · rcases List.mem_append.mp hd2 with hd2 | hd2
            · rcases List.mem_append.mp hd2 with hd2 | hd2
              · rw [List.eq_of_mem_replicate hd2]
                exact ⟨by simp [noL], (sh_int _).up (by decide)⟩
              · rw [List.eq_of_mem_replicate hd2]
                exact ⟨by simp [noL], sh_none.up (by decide)⟩
            · rw [List.eq_of_mem_replicate hd2]
              exact ⟨by simp [noL], (sh_int _).up (by decide)⟩
          · rw [List.eq_of_mem_replicate hd2]
            exact ⟨by simp [noL, noLs], (sh_tup (sh_c (sh_int _) (sh_c (sh_int _) sh_n))).up (by decide)⟩
        shL := fun _ h => absurd h List.not_mem_nil
        shX := fun ls h => by
          rw [List.eq_of_mem_replicate h]
          exact fun _ h => absurd h List.not_mem_nil
        lim := fun es h => by
          rw [List.eq_of_mem_replicate h]
          exact Nat.zero_le _
        ndL := by
          have n1 : D ∉ xs.map fun y => y.2.2 := fun h => by
            obtain ⟨y, hy, e⟩ := List.mem_map.mp h
            have := (hx6 y hy).1
            rw [e, hD4] at this
            cases this
          have n2 : D2 ∉ xs.map fun y => y.2.2 := fun h => by
            obtain ⟨y, hy, e⟩ := List.mem_map.mp h
            exact (hx6 y hy).2.1 e
          have n3 : ∀ {c : Addr}, H6 c = none → c ∉ xs.map fun y => y.2.2 := fun {c} hc h => by
            obtain ⟨y, hy, e⟩ := List.mem_map.mp h
            have := (hx6 y hy).2.2.lst
            rw [e, hc] at this
            cases this
          have n4 : ∀ {c : Addr}, H6 c = none → D ≠ c ∧ D2 ≠ c := fun {c} hc => ⟨fun e => (by rw [← e, hD6] at hc; cases hc), fun e => (by rw [← e, hD26] at hc; cases hc)⟩
          show (D :: D2 :: cl :: lg :: xs.map fun y => y.2.2).Nodup
          simp only [List.nodup_cons, List.mem_cons, not_or]
          exact ⟨⟨nDD, (n4 fcl).1, (n4 nlg6).1, n1⟩, ⟨(n4 fcl).2, (n4 nlg6).2, n2⟩, ⟨nclg, n3 fcl⟩, n3 nlg6, nd2⟩
        ndB := nd
        ndI := fun y hy => (hb6 y hy).2.1 }

theorem ok_is_value (T : Txt w K mg a) : FnOk P w K mg base CX0 2 a.f_is_value a.d_is_value ["value"] (spValue K) := by
  refine T.F_is_value.ok sc_is_value (fun vs H Q E h => ?_) (fun cdv A outer s H vs Q E hr h => ?_)
  · obtain ⟨v, d, rfl, _⟩ := h
    rfl
  · obtain ⟨v, d, rfl, hd, q⟩ := h
    refine ⟨_, (pss_one (ps_ret (pe_or (pe_cmpR (op_isN) (pv 0) pe_non (by rfl)) (pe_or (pe_call (ok_is_whole T) (hr.mono (by decide)) rfl T.m_is_whole T.F_is_whole.kp T.B_is_whole .nil pass0 (pa_cons (pv 0) pa_nil)) (pe_one (pe_callB call_isi (by rfl) T.b_isinstance (by decide +kernel) (pa_cons (pv 0) (pa_cons (pe_bltn (v := .ty "tuple") rfl T.b_tuple (by decide +kernel) rfl) pa_nil)))))))), ?_⟩
    have ty := tyx hd
    cases hd with
    | non => exact ⟨_, rfl, rfl, _, rfl, iteT q⟩
    | bl c => exact ⟨_, rfl, rfl, _, rfl, iteF ⟨_, rfl, _, .bool c, rfl, .bl c, _, rfl, iteF ⟨_, rfl, _, _, _, _, _, rfl, .ty _, ty, kit_tup _, q⟩⟩⟩
    | int i => exact ⟨_, rfl, rfl, _, rfl, iteF ⟨_, rfl, _, .int i, rfl, .int i, _, rfl, iteT q⟩⟩
    | str x => exact ⟨_, rfl, rfl, _, rfl, iteF ⟨_, rfl, _, .str x, rfl, .str x, _, rfl, iteF ⟨_, rfl, _, _, _, _, _, rfl, .ty _, ty, kit_tup _, q⟩⟩⟩
    | @lst t xs ds sL aL => exact ⟨_, rfl, rfl, _, rfl, iteF ⟨_, rfl, _, .list ds, rfl, .lst sL aL, _, rfl, iteF ⟨_, rfl, _, _, _, _, _, rfl, .ty _, ty, kit_tup _, q⟩⟩⟩
    | @tup t xs ds sL aL => exact ⟨_, rfl, rfl, _, rfl, iteF ⟨_, rfl, _, .tuple ds, rfl, .tup sL aL, _, rfl, iteF ⟨_, rfl, _, _, _, _, _, rfl, .ty _, ty, kit_tup _, q⟩⟩⟩
theorem ok_bound_of (T : Txt w K mg a) : FnOk P w K mg base CX0 2 a.f_bound_of a.d_bound_of ["kind", "sizes"] (spBound a.C_Sizes) := by
  refine T.F_bound_of.ok sc_bound_of (fun vs H Q E h => ?_) (fun cdv A outer s H vs Q E hr h => ?_)
  · obtain ⟨k, z, dx, p, f, b, rfl, _⟩ := h
    rfl
  · obtain ⟨k, z, dx, p, f, b, rfl, hz, q⟩ := h
    refine ⟨_, (pss_cons (ps_if (pt_cmpR (op_eq) (pv 0) pe_str (nomark _)) (pss_one (ps_ret (pe_meth0 (pv 1) T.c_Sizes T.M_Sizes_cells (ok_Sizes_cells T) (hr.mono (by decide)) T.B_Sizes_cells .nil pass0))) pss_nil)
    (pss_cons (ps_if (pt_cmpR (op_eq) (pv 0) pe_str (nomark _)) (pss_one (ps_ret (pe_fld (pv 1) rfl))) pss_nil)
    (pss_cons (ps_if (pt_cmpR (op_eq) (pv 0) pe_str (nomark _)) (pss_one (ps_ret (pe_con rfl T.k_SPACES))) pss_nil)
    (pss_cons (ps_if (pt_cmpR (op_eq) (pv 0) pe_str (nomark _)) (pss_one (ps_ret (pe_con rfl T.k_PAGES))) pss_nil)
    (pss_one (ps_ret (pe_con rfl T.k_CELLS))))))), ?_⟩
    unfold boundK at q
    refine ⟨_, rfl, rfl, _, rfl, ?_⟩
    by_cases c1 : k = "cell"
    · rw [if_pos c1] at q
      exact ifT (by rw [c1]; simp) ⟨_, rfl, z, dx, _, rfl, hz, rfl, z, dx, p, f, b, rfl, hz, q⟩
    rw [if_neg c1] at q
    refine ifF (by simpa using c1) ⟨_, rfl, rfl, _, rfl, ?_⟩
    by_cases c2 : k = "processor"
    · rw [if_pos c2] at q
      exact ifT (by rw [c2]; simp) ⟨_, rfl, z, _, dx, _, _, rfl, hz, T.c_Sizes, T.n_Sizes_processors, rfl, q⟩
    rw [if_neg c2] at q
    refine ifF (by simpa using c2) ⟨_, rfl, rfl, _, rfl, ?_⟩
    by_cases c3 : k = "space"
    · rw [if_pos c3] at q
      exact ifT (by rw [c3]; simp) q
    rw [if_neg c3] at q
    refine ifF (by simpa using c3) ⟨_, rfl, rfl, _, rfl, ?_⟩
    by_cases c4 : k = "page"
    · rw [if_pos c4] at q
      exact ifT (by rw [c4]; simp) q
    rw [if_neg c4] at q
    exact ifF (by simpa using c4) q
theorem ok_is_part (T : Txt w K mg a) : FnOk P w K mg base CX0 5 a.f_is_part a.d_is_part ["part", "kind", "sizes"] (spPart K a.C_Sizes) := by
  refine T.F_is_part.ok sc_is_part (fun vs H Q E h => ?_) (fun cdv A outer s H vs Q E hr h => ?_)
  · obtain ⟨v, d, k, z, dx, p, f, b, rfl, _⟩ := h
    rfl
  · obtain ⟨v, d, k, z, dx, p, f, b, rfl, hd, few, hz, q⟩ := h
    refine ⟨_, (pss_cons (ps_if (pt_cmpR (op_eq) (pv 1) pe_str (nomark _)) (pss_one (ps_ret (pe_call (ok_is_value T) (hr.mono (by decide)) rfl T.m_is_value T.F_is_value.kp T.B_is_value .nil pass0 (pa_cons (pv 0) pa_nil)))) pss_nil)
    (pss_cons (ps_if (pt_cmpR (op_eq) (pv 1) pe_str (nomark _)) (pss_one (ps_ret (pe_call (ok_is_letter T) (hr.mono (by decide)) rfl T.m_is_letter T.F_is_letter.kp T.B_is_letter .nil pass0 (pa_cons (pv 0) pa_nil)))) pss_nil)
    (pss_one (ps_ret (pe_call (ok_is_number_below T) (hr.mono (by decide)) rfl T.m_is_number_below T.F_is_number_below.kp T.B_is_number_below .nil pass0 (pa_cons (pv 0) (pa_cons (pe_call (ok_bound_of T) (hr.mono (by decide)) rfl T.m_bound_of T.F_bound_of.kp T.B_bound_of .nil pass0 (pa_cons (pv 1) (pa_cons (pv 2) pa_nil))) pa_nil))))))), ?_⟩
    unfold partD at q
    refine ⟨_, rfl, rfl, _, rfl, ?_⟩
    by_cases c1 : k = "value"
    · rw [if_pos c1] at q
      exact ifT (by rw [c1]; simp) ⟨_, rfl, v, d, rfl, hd, q H (Same.refl H)⟩
    rw [if_neg c1] at q
    refine ifF (by simpa using c1) ⟨_, rfl, rfl, _, rfl, ?_⟩
    by_cases c2 : k = "letter"
    · rw [if_pos c2] at q
      exact ifT (by rw [c2]; simp) ⟨_, rfl, v, d, rfl, hd, few, q⟩
    rw [if_neg c2] at q
    exact ifF (by simpa using c2) ⟨_, rfl, _, rfl, _, rfl, k, z, dx, p, f, b, rfl, hz, _, d, _, rfl, hd, q H (Same.refl H)⟩
theorem ok_is_request (T : Txt w K mg a) : FnOk P w K mg base CX0 6 a.f_is_request a.d_is_request ["value", "sizes"] (spIsReq K a.C_Sizes) := by
  refine T.F_is_request.ok sc_is_request (fun vs H Q E h => ?_) (fun cdv A outer s H vs Q E hr h => ?_)
  · obtain ⟨v, d, z, dx, p, f, b, rfl, _⟩ := h
    rfl
  · obtain ⟨v, d, z, dx, p, f, b, rfl, hd, few, hz, q⟩ := h
    refine ⟨_, (pss_cons (ps_if (PW.pt (pw_or (pt_not (pt_val (pe_callB call_isi (by rfl) T.b_isinstance (by decide +kernel) (pa_cons (pv 0) (pa_cons (pe_bltn (v := .ty "tuple") rfl T.b_tuple (by decide +kernel) rfl) pa_nil))))) (pw_or (pt_cmpR (op_eq) (pe_callB call_len_seq (by rfl) T.b_len (by decide +kernel) (pa_cons (pv 0) pa_nil)) pe_int (nomark _)) (pw_or1 (pt_not (pt_val (pe_callB call_isi (by rfl) T.b_isinstance (by decide +kernel) (pa_cons (pe_ix ix_tup (pv 0) pe_int (fun _ _ => rfl)) (pa_cons (pe_bltn (v := .ty "str") rfl T.b_str (by decide +kernel) rfl) pa_nil))))))))) (pss_one (ps_ret pe_bl)) pss_nil)
    (pss_cons (ps_set (i := 2) sc_is_request.nd rfl (Or.inl rfl) (Pk.pe_kget1 (pe_glob (v := .ref T.pt.ex.choose) rfl T.pt.ex.choose_spec.1 rfl) (pe_ix ix_tup (pv 0) pe_int (fun _ _ => rfl)) ⟨rfl, rfl, rfl, rfl⟩))
    (pss_cons (ps_if (PW.pt (pw_or (pt_cmpR (op_isN) (pv 2) pe_non (by rfl)) (pw_or1 (pt_cmpR (op_ne) (pe_callB call_len_seq (by rfl) T.b_len (by decide +kernel) (pa_cons (pv 0) pa_nil)) (pe_op op_add pe_int (pe_callB call_len_seq (by rfl) T.b_len (by decide +kernel) (pa_cons (pv 2) pa_nil))) (nomark _))))) (pss_one (ps_ret pe_bl)) pss_nil)
    (pss_one (ps_ret (pe_callB (cr_all rfl) (by rfl) T.b_all (by decide +kernel) (pa_cons (pe_lc (own := [("part", 3), ("kind", 4)]) (g := (gTup K 2 (gCons (gName 3) (gCons (gName 4) gNil)))) (tt := tYes) rfl sc_is_request.nd (RZ.pi_zipA (by rfl) T.b_zip (pa_cons (pe_slice sl_tupA (pv 0) (po_some pe_int) po_none) (pa_cons (pv 2) pa_nil))) (blkOk_by (own := [("part", 3), ("kind", 4)]) (N := ["value", "sizes", "kinds", "part", "kind"]) (sc := defScope s_is_request) (by decide +kernel)) (fun _ _ _ _ _ => (pg_tup rfl (pgs_cons (pg_name (i := 3) sc_is_request.nd rfl (Or.inl rfl)) (pgs_cons (pg_name (i := 4) sc_is_request.nd rfl (Or.inl rfl)) pgs_nil)))) (fun _ _ _ _ _ => pts_nil) (fun _ _ _ _ _ => (pe_call (ok_is_part T) (hr.mono (by decide)) rfl T.m_is_part T.F_is_part.kp T.B_is_part .nil pass0 (pa_cons (pv 3) (pa_cons (pv 4) (pa_cons (pv 1) pa_nil)))))) pa_nil))))))), ?_⟩
    have ty := tyx hd
    cases hd with
    | non => exact ⟨_, rfl, _, _, _, _, _, rfl, .ty _, ty, kit_tup _, _, rfl, iteT (iteT (q H (Same.refl H)))⟩
    | bl c => exact ⟨_, rfl, _, _, _, _, _, rfl, .ty _, ty, kit_tup _, _, rfl, iteT (iteT (q H (Same.refl H)))⟩
    | int i => exact ⟨_, rfl, _, _, _, _, _, rfl, .ty _, ty, kit_tup _, _, rfl, iteT (iteT (q H (Same.refl H)))⟩
    | str x => exact ⟨_, rfl, _, _, _, _, _, rfl, .ty _, ty, kit_tup _, _, rfl, iteT (iteT (q H (Same.refl H)))⟩
    | @lst t xs ds sL aL => exact ⟨_, rfl, _, _, _, _, _, rfl, .ty _, ty, kit_tup _, _, rfl, iteT (iteT (q H (Same.refl H)))⟩
    | @tup t xs ds sT aT =>
      refine ⟨_, rfl, _, _, _, _, _, rfl, .ty _, ty, kit_tup _, _, rfl, iteF ⟨_, rfl, _, _, rfl, .inr sT, rfl, _, rfl, ?_⟩⟩
      cases aT with
      | nil => exact iteT (iteT (q H (Same.refl H)))
      | @cons v0 xr d0 r h0 aR =>
        have el := dpAll_len aR
        refine iteF ⟨_, rfl, _, _, _, _, rfl, rfl, sT, at_of (j := 0) rfl rfl, _, _, _, _, _, rfl, .ty _, tyx h0, kit_str _, _, rfl, ?_⟩
        cases h0 with
        | non => exact iteT (q H (Same.refl H))
        | bl c => exact iteT (q H (Same.refl H))
        | int i => exact iteT (q H (Same.refl H))
        | lst _ _ => exact iteT (q H (Same.refl H))
        | tup _ _ => exact iteT (q H (Same.refl H))
        | str nm =>
          refine iteF ?_
          have eR : reqD (.tuple (.str nm :: r)) p f b = reqL nm r p f b := rfl
          rw [eR] at q
          refine ⟨_, rfl, T.pt.ex.choose_spec.2.1, _, rfl, _, _, _, _, rfl, rfl, sT, at_of (j := 0) rfl rfl, nm, rfl, ?_⟩
          rcases T.pt.ex.choose_spec.2.2 nm with ⟨ks, t2, hk, hn, hT⟩ | ⟨hk, hn⟩
          · refine .inl ⟨_, .ref t2, hn, rfl, ?_⟩
            have eL : reqL nm r p f b = (decide (r.length = ks.length) && (r.zip ks).all fun y => partD y.1 y.2 p f b) := by
              unfold reqL
              rw [hk]
            rw [eL] at q
            refine ⟨_, rfl, rfl, _, rfl, iteF ⟨_, rfl, _, _, rfl, .inr sT, _, rfl, _, _, rfl, .inr (hT H), _, _, rfl, rfl, rfl, _, rfl, ?_⟩⟩
            by_cases c : ¬ r.length = ks.length
            · rw [decide_eq_false c, Bool.false_and] at q
              refine ifT ?_ (q H (Same.refl H))
              simp only [List.length_cons, List.length_map, el, Bool.not_eq_true', decide_eq_false_iff_not, V.int.injEq]
              omega
            have c2 : r.length = ks.length := Classical.not_not.mp c
            refine ifF ?_ ?_
            · simp only [List.length_cons, List.length_map, el, Bool.not_eq_false', decide_eq_true_eq, V.int.injEq]
              omega
            · rw [decide_eq_true c2, Bool.true_and] at q
              have lo1 : HT.sIx (V.str nm :: xr).length 0 (some 1) = min 1 (V.str nm :: xr).length := HT.sIx_nat _ 0 1
              refine ⟨_, rfl, 1, rfl, t, V.str nm :: xr, rfl, sT, (fun h => absurd h.1 (by rw [lo1, List.length_cons]; omega)), fun _ u hu => ⟨_, rfl, ?_⟩⟩
              rw [cut1]
              have e1 := Same.new (o := .tup ((V.str nm :: xr).drop 1)) hu
              have hu1 : upd H u (.tup ((V.str nm :: xr).drop 1)) u = some (.tup xr) := upd_same
              generalize upd H u (.tup ((V.str nm :: xr).drop 1)) = H1 at e1 hu1 ⊢
              have lenX : xr.length = (ks.map V.str).length := by rw [List.length_map, el, c2]
              have w100 := few.wide _ rfl
              refine ⟨u, t2, xr, ks.map V.str, rfl, .inr ⟨SqT.of hu1, hT H1, fun D hD => ?_⟩⟩
              refine lc_zipT (K := K) (a := u) (b := t2) (xs := xr) (ys := ks.map V.str) lenX (fun i H' => Same H1 H' ∧ H' D = some (.lst (((r.zip ks).take i).map fun y => V.bl (partD y.1 y.2 p f b)))) ⟨Same.new hD, upd_same⟩ (fun i H' _ ⟨eS, _⟩ => ⟨SqT.of (eS _ _ hu1), hT H'⟩) ?_ ?_
              · rintro i x y t3 H' hx hy ⟨eS, eD⟩ ht3
                obtain ⟨dx2, h1, h2⟩ := dpAll_get aR hx
                obtain ⟨k2, h3, rfl⟩ := map_get hy
                have e3 := eS.trans (Same.new (o := .tup [x, .str k2]) ht3)
                have nDt : D ≠ t3 := ne_of_none eD ht3
                refine ⟨t3, _, rfl, SqT.of upd_same, rfl, _, _, rfl, _, _, rfl, rfl, rfl, _, rfl, _, rfl, _, rfl, x, dx2, k2, z, dx, p, f, b, rfl, dp_mono (e1.trans e3) h2, few.deep _ rfl dx2 (List.mem_cons_of_mem _ (mem_of_get h1)), (e1.trans e3) _ _ hz, fun H4 e4 => ?_⟩
                have hz3 : (r.zip ks)[i]? = some (dx2, k2) := by rw [List.getElem?_zip_eq_some]; exact ⟨h1, h3⟩
                refine ⟨_, e4 _ _ ((upd_ne nDt).trans eD), ?_, Same.put (e3.trans e4) hD, ?_⟩
                · rw [List.length_map]
                  have : ((r.zip ks).take i).length ≤ 100 := by
                    rw [List.length_take, List.length_zip]
                    simp only [List.length_cons] at w100
                    omega
                  exact Nat.lt_of_le_of_lt this (by decide)
                · rw [upd_same, take_snoc hz3, List.map_append]
                  rfl
              · rintro H' ⟨eS, eD⟩
                refine ⟨D, (r.zip ks).map fun y => partD y.1 y.2 p f b, rfl, SqL.of ?_, ?_⟩
                · rw [eD, List.take_of_length_le (by rw [List.length_zip]; omega), List.map_map]
                  rfl
                · have e7 : ((r.zip ks).map fun y => partD y.1 y.2 p f b).all id = (r.zip ks).all fun y => partD y.1 y.2 p f b := by
                    rw [List.all_map]
                    rfl
                  rw [e7]
                  exact q H' (e1.trans eS)
          · have eL : reqL nm r p f b = false := by
              unfold reqL
              rw [hk]
            rw [eL] at q
            exact .inr ⟨hn, _, rfl, rfl, _, rfl, iteT (iteT (q H (Same.refl H)))⟩

theorem ok_Sizes_acknowledge (T : Txt w K mg a) : FnOk P w K mg base CX0 1 a.f_Sizes_acknowledge a.d_Sizes_acknowledge ["self", "processor"] (spAck a.C_Sizes) := by
  refine T.F_Sizes_acknowledge.ok sc_Sizes_acknowledge (fun vs H Q E h => ?_) (fun cdv A outer s H vs Q E hr h => ?_)
  · obtain ⟨z, dx, p, f, b, i, rfl, _⟩ := h
    rfl
  · obtain ⟨z, dx, p, f, b, i, rfl, hz, q⟩ := h
    exact ⟨_, (pss_one (ps_ret (pe_op op_add (pe_fld (pv 0) rfl) (pv 1)))), _, rfl, z, _, dx, _, _, rfl, hz, T.c_Sizes, T.n_Sizes__acknowledges, rfl, _, rfl, _, _, rfl, rfl, q⟩
theorem ok_Sizes_word (T : Txt w K mg a) : FnOk P w K mg base CX0 1 a.f_Sizes_word a.d_Sizes_word ["self", "space", "page"] (spWordC a.C_Sizes) := by
  refine T.F_Sizes_word.ok sc_Sizes_word (fun vs H Q E h => ?_) (fun cdv A outer s H vs Q E hr h => ?_)
  · obtain ⟨z, dx, p, f, b, i, j, rfl, _⟩ := h
    rfl
  · obtain ⟨z, dx, p, f, b, i, j, rfl, hz, q⟩ := h
    exact ⟨_, (pss_one (ps_ret (pe_op op_add (pe_op op_add (pe_fld (pv 0) rfl) (pe_op op_mul (pe_con rfl T.k_PAGES) (pv 1))) (pv 2)))), _, rfl, z, _, dx, _, _, rfl, hz, T.c_Sizes, T.n_Sizes__words, rfl, _, rfl, _, _, rfl, rfl, .inl ⟨by decide, by decide⟩, _, _, rfl, rfl, _, rfl, _, _, rfl, rfl, q⟩

theorem sb_free {b l : Addr} {H H' : Hp} (e : SameBut b H H') (h : H' l = none) (n : l ≠ b) : H l = none := by
  cases hh : H l with
  | none => rfl
  | some o =>
    rw [e l o n hh] at h
    cases h
theorem ok_Buffer_drop (T : Txt w K mg a) : FnOk P w K mg base CX0 1 a.f_Buffer_drop a.d_Buffer_drop ["self", "pairs"] (spDrop K a.C_Buffer) := by
  refine T.F_Buffer_drop.ok sc_Buffer_drop (fun vs H Q E h => ?_) (fun cdv A outer s H vs Q E hr h => ?_)
  · obtain ⟨b, dx, l, zs, y, ps, rfl, _⟩ := h
    rfl
  · obtain ⟨b, dx, l, zs, y, ps, rfl, hB, hE, lim, hy, q⟩ := h
    refine ⟨_, (pss_one (ps_fld (pv 0) (pe_lc (own := [("entry", 2)]) (g := gName 2) (tt := _) rfl sc_Buffer_drop.nd (pi_list (pe_fld (pv 0) rfl)) (blkOk_by (own := [("entry", 2)]) (N := ["self", "pairs", "entry"]) (sc := defScope s_Buffer_drop) (by decide +kernel)) (fun _ _ _ _ _ => (pg_name (i := 2) sc_Buffer_drop.nd rfl (Or.inl rfl))) (fun _ _ _ _ _ => (pts_one (pt_cmpR ((op_niD (hu65 hr) : OpR _ (compareOp .NotIn) (rNiD K))) (pe_slice (sl_tupA : SlR _ (rSlA K)) (pv 2) po_none (po_some pe_int)) (pv 1) rfl))) (fun _ _ _ _ _ => (pv 2))) rfl)), ?_⟩
    refine ⟨_, rfl, b, a.C_Buffer, dx, _, _, rfl, hB.ins, T.c_Buffer, T.n_Buffer__entries, rfl, l, rfl, ⟨_, SqL.of hB.lst⟩, fun D hD => ?_⟩
    refine lc_list (K := K) (a := l) (xs := zs.map aV) (fun i H' => ∃ G, H' = upd G D (.lst (((zs.take i).filter fun z => keep ps z.2).map aV)) ∧ Same H G ∧ G D = none)
      ⟨H, rfl, Same.refl H, hD⟩ (fun i H' _ ⟨G, e, eS, gD⟩ => by rw [e]; exact SqL.of ((Same.new gD) _ _ (eS _ _ hB.lst))) ?_ ?_
    · rintro i x H' hx ⟨G, rfl, eS, gD⟩
      obtain ⟨z, hz, rfl⟩ := map_get hx
      have hzz := eS _ _ (hE z (mem_of_get hz))
      refine ⟨rfl, _, rfl, 2, rfl, z.1, eV z.2, rfl, SqT.of ((Same.new gD) _ _ hzz), (fun h => absurd h.2 (by show ¬ (2 : Nat) = 4; decide)), fun _ t ht => ?_⟩
      have ntD : t ≠ D := fun e => by rw [e, upd_same] at ht; cases ht
      have gt : G t = none := (upd_ne ntD).symm.trans ht
      have eC : upd (upd G D (.lst (((zs.take i).filter fun z => keep ps z.2).map aV))) t (.tup [.int z.2.s, .int z.2.p]) = upd (upd G t (.tup [.int z.2.s, .int z.2.p])) D (.lst (((zs.take i).filter fun z => keep ps z.2).map aV)) := upd_comm (Ne.symm ntD)
      have eG : Same H (upd G t (.tup [.int z.2.s, .int z.2.p])) := eS.trans (Same.new gt)
      have gD2 : upd G t (.tup [.int z.2.s, .int z.2.p]) D = none := (upd_ne (Ne.symm ntD)).trans gD
      have eA : Same H (upd (upd G t (.tup [.int z.2.s, .int z.2.p])) D (.lst (((zs.take i).filter fun z => keep ps z.2).map aV))) := eG.trans (Same.new gD2)
      refine ⟨_, rfl, pD (z.2.s, z.2.p), ps.map pD, ?_, ?_, (shP _).ok, (shPs ps).ok, _, rfl, ?_⟩
      · exact .tup (SqT.of upd_same) (.cons (.int _) (.cons (.int _) .nil))
      · show Dp K (upd (upd G D _) t (.tup [.int z.2.s, .int z.2.p])) y _ ∨ Dp K (upd (upd G D _) t (.tup [.int z.2.s, .int z.2.p])) y _
        rw [eC]
        exact hy.imp (dp_mono eA) (dp_mono eA)
      · have ek : (!(ps.map pD).any fun d => PyData.eqv d (pD (z.2.s, z.2.p))) = keep ps z.2 := any_pD ps z.2
        refine ite2 (fun c => ?_) (fun c => ?_)
        · refine ⟨_, rfl, _, (upd_ne (Ne.symm ntD)).trans upd_same, ?_, upd G t (.tup [.int z.2.s, .int z.2.p]), ?_, eG, gD2⟩
          · rw [List.length_map]
            refine Nat.lt_of_le_of_lt (Nat.le_trans (List.length_filter_le _ _) (by rw [List.length_take]; exact Nat.le_trans (Nat.min_le_right _ _) lim)) (by decide : 1000 < sizeLine)
          · rw [ek] at c
            show upd (upd (upd G D _) t (.tup [.int z.2.s, .int z.2.p])) D _ = _
            rw [eC, upd_upd, take_snoc hz, List.filter_append, List.map_append, List.filter_cons, if_pos c]
            rfl
        · refine ⟨upd G t (.tup [.int z.2.s, .int z.2.p]), ?_, eG, gD2⟩
          rw [ek] at c
          show upd (upd G D _) t (.tup [.int z.2.s, .int z.2.p]) = _
          rw [eC, take_snoc hz, List.filter_append, List.filter_cons, if_neg c, List.filter_nil, List.append_nil]
    · rintro H' ⟨G, rfl, eS, gD⟩
      rw [List.length_map, List.take_length]
      have nb : b ≠ D := ne_of_none (eS _ _ hB.ins) gD
      refine ⟨_, rfl, b, a.C_Buffer, dx, _, rfl, (Same.new gD) _ _ (eS _ _ hB.ins), T.c_Buffer, T.n_Buffer__entries, (by show 1 < 1000; decide), ?_⟩
      exact q _ D (fun x o nx hx => (upd_ne nx).trans ((Same.new gD) _ _ (eS _ _ hx))) hD ⟨upd_same, (upd_ne (Ne.symm nb)).trans upd_same⟩
theorem ok_leads_to_frame (T : Txt w K mg a) : FnOk P w K mg base CX0 1 a.f_leads_to_frame a.d_leads_to_frame ["word"] (spLeadsW K) := by
  refine T.F_leads_to_frame.ok sc_leads_to_frame (fun vs H Q E h => ?_) (fun cdv A outer s H vs Q E hr h => ?_)
  · obtain ⟨y, x, rfl, _⟩ := h
    rfl
  · obtain ⟨y, x, rfl, hy, q⟩ := h
    refine ⟨_, (pss_one (ps_ret (pe_and (pe_callB call_isi (by rfl) T.b_isinstance (by decide +kernel) (pa_cons (pv 0) (pa_cons (pe_bltn (v := .ty "tuple") rfl T.b_tuple (by decide +kernel) rfl) pa_nil))) (pe_and (pe_cmpR (op_eq) (pe_callB call_len_seq (by rfl) T.b_len (by decide +kernel) (pa_cons (pv 0) pa_nil)) pe_int (nomark _)) (pe_one (pe_cmpR (op_eq) (pe_ix ix_tup (pv 0) pe_int (fun _ _ => rfl)) pe_str (nomark _))))))), ?_⟩
    refine ⟨_, rfl, _, _, _, _, _, rfl, .ty _, tyx hy, kit_tup _, _, rfl, ?_⟩
    cases x with
    | non => exact iteF q
    | frame f w =>
      cases hy with
      | @tup t xs _ sT aT =>
      cases aT with
      | cons d0 aT =>
      cases aT with
      | cons d1 aT =>
      cases aT with
      | cons d2 aT =>
      cases aT
      cases d0
      exact iteT ⟨_, rfl, _, _, rfl, .inr sT, rfl, _, rfl, iteT ⟨_, rfl, _, _, _, _, rfl, rfl, sT, at_of (j := 0) rfl rfl, rfl, q⟩⟩
    | swap n =>
      cases hy with
      | @tup t xs _ sT aT =>
      cases aT with
      | cons d0 aT =>
      cases aT with
      | cons d1 aT =>
      cases aT
      exact iteT ⟨_, rfl, _, _, rfl, .inr sT, rfl, _, rfl, iteF q⟩
    | file =>
      cases hy with
      | @tup t xs _ sT aT =>
      cases aT with
      | cons d0 aT =>
      cases aT with
      | cons d1 aT =>
      cases aT with
      | cons d2 aT =>
      cases aT
      cases d0
      exact iteT ⟨_, rfl, _, _, rfl, .inr sT, rfl, _, rfl, iteT ⟨_, rfl, _, _, _, _, rfl, rfl, sT, at_of (j := 0) rfl rfl, rfl, q⟩⟩
    | held =>
      cases hy with
      | @tup t xs _ sT aT =>
      cases aT with
      | cons d0 aT =>
      cases aT
      exact iteT ⟨_, rfl, _, _, rfl, .inr sT, rfl, _, rfl, iteF q⟩
theorem ok_Buffer_put (T : Txt w K mg a) : FnOk P w K mg base CX0 2 a.f_Buffer_put a.d_Buffer_put ["self", "space", "page", "word"] (spPut K a.C_Buffer) := by
  refine T.F_Buffer_put.ok sc_Buffer_put (fun vs H Q E h => ?_) (fun cdv A outer s H vs Q E hr h => ?_)
  · obtain ⟨b, dx, l, zs, s, p, y, x, rfl, _⟩ := h
    rfl
  · obtain ⟨b, dx, l, zs, sp, pg, y, x, rfl, hB, hE, lim, hy, q⟩ := h
    refine ⟨_, (pss_cons (ps_expr (pe_meth (pv 0) T.c_Buffer T.M_Buffer_drop (ok_Buffer_drop T) (hr.mono (by decide)) T.B_Buffer_drop .nil pass0 (pa_cons (pe_lst (pa_cons (pe_tup (pa_cons (pv 1) (pa_cons (pv 2) pa_nil))) pa_nil)) pa_nil)))
    (pss_one (ps_if (pt_val (pe_call (ok_leads_to_frame T) (hr.mono (by decide)) rfl T.m_leads_to_frame T.F_leads_to_frame.kp T.B_leads_to_frame .nil pass0 (pa_cons (pv 3) pa_nil))) (pss_cons (ps_expr (pe_bm PySem.F.plainAttrs_list PySem.F.slot_list_append PySem.F.type_list_append mt_append (pe_fld (pv 0) rfl) (pa_cons (pe_tup (pa_cons (pv 1) (pa_cons (pv 2) (pa_cons (pe_ix ix_tup (pv 3) pe_int (fun _ _ => rfl)) (pa_cons (pe_ix ix_tup (pv 3) pe_int (fun _ _ => rfl)) pa_nil))))) pa_nil)))
    (pss_one (ps_fld (pv 0) (pe_slice sl_list (pe_fld (pv 0) rfl) (po_some (pe_un un_neg (pe_con rfl T.k_MOST_ENTRIES))) po_none) rfl))) pss_nil))), ?_⟩
    refine ⟨_, rfl, b, dx, _, rfl, hB.ins, rfl, _, rfl, _, rfl, (by show 2 ≤ sizeLine; decide), fun t ht => ⟨(by show 1 ≤ sizeLine; decide), fun u hu => ?_⟩⟩
    have e1 := (Same.new (o := .tup [.int sp, .int pg]) ht).trans (Same.new (o := .lst [.ref t]) hu)
    have tT : upd (upd H t (.tup [.int sp, .int pg])) u (.lst [.ref t]) t = some (.tup [.int sp, .int pg]) := (Same.new hu) _ _ upd_same
    refine ⟨b, dx, l, zs, .ref u, [(sp, pg)], rfl, ⟨e1 _ _ hB.ins, e1 _ _ hB.lst⟩, fun z hz => e1 _ _ (hE z hz), by omega, .inl (.lst (SqL.of upd_same) (.cons (.tup (SqT.of tT) (.cons (.int _) (.cons (.int _) .nil))) .nil)), fun H1 l1 s1 l1f hB1 => ?_⟩
    have kt1 : KT H H1 := (KT.of e1).trans (s1.kt (e1 _ _ hB.ins))
    have hE1 : EnAll H1 (zs.filter fun z => keep [(sp, pg)] z.2) := (hE.kt kt1).filter _
    have sb1 : SameBut b H H1 := (Same.but e1).trans s1
    have wL : ∃ wd, wd = wD x := ⟨_, rfl⟩
    cases x with
    | frame f wr =>
      have hy1 := dp_keep kt1 (by simp [wD, noL, noLs]) hy
      refine ⟨_, rfl, y, _, rfl, hy1, _, rfl, iteT ?_⟩
      cases hy1 with
      | @tup yt xs _ sT aT =>
      cases aT with
      | cons d0 aT =>
      cases aT with
      | cons d1 aT =>
      cases aT with
      | cons d2 aT =>
      cases aT
      cases d0
      cases d1
      cases d2
      -- self._entries.append((space, page, word[1], word[2]))
      refine ⟨_, rfl, b, a.C_Buffer, dx, _, _, rfl, hB1.ins, T.c_Buffer, T.n_Buffer__entries, rfl, .inl ⟨rfl, _, SqL.of hB1.lst⟩, _, rfl, _, rfl, _, rfl, yt, _, _, _, rfl, rfl, sT, at_of (j := 1) rfl rfl,
        _, rfl, yt, _, _, _, rfl, rfl, sT, at_of (j := 2) rfl rfl, (by show 4 ≤ sizeLine; decide), fun t2 ht2 => ?_⟩
      have nlt : l1 ≠ t2 := ne_of_none hB1.lst ht2
      have nbt : b ≠ t2 := ne_of_none hB1.ins ht2
      have nbl : b ≠ l1 := ne_of hB1.ins hB1.lst (fun z => nomatch z)
      have len1 : (zs.filter fun z => keep [(sp, pg)] z.2).length ≤ 2 := Nat.le_trans (List.length_filter_le _ _) lim
      refine ⟨l1, _, _, rfl, rfl, (upd_ne nlt).trans hB1.lst, ?_, ?_⟩
      · rw [List.length_map]
        exact Nat.lt_of_le_of_lt len1 (by decide)
      have eApp : (zs.filter fun z => keep [(sp, pg)] z.2).map aV ++ [V.ref t2] = ((zs.filter fun z => keep [(sp, pg)] z.2) ++ [(t2, (⟨sp, pg, f, wr⟩ : En))]).map aV := by
        rw [List.map_append]
        rfl
      rw [eApp]
      have hA : ∃ zs2 : List (Addr × En), zs2 = (zs.filter fun z => keep [(sp, pg)] z.2) ++ [(t2, (⟨sp, pg, f, wr⟩ : En))] := ⟨_, rfl⟩
      obtain ⟨zs2, ez⟩ := hA
      rw [← ez]
      have len2 : zs2.length ≤ 3 := by rw [ez, List.length_append, List.length_singleton]; omega
      have h2b : upd (upd H1 t2 (.tup [.int sp, .int pg, .int f, .bl wr])) l1 (.lst (zs2.map aV)) b = some (.ins a.C_Buffer dx [("_entries", .ref l1)]) := (upd_ne nbl).trans ((upd_ne nbt).trans hB1.ins)
      have hE2 : EnAll (upd (upd H1 t2 (.tup [.int sp, .int pg, .int f, .bl wr])) l1 (.lst (zs2.map aV))) zs2 := by
        rw [ez]
        refine EnAll.kt (H := upd H1 t2 (.tup [.int sp, .int pg, .int f, .bl wr])) ?_ (KT.lst ((upd_ne nlt).trans hB1.lst))
        exact (hE1.kt (KT.new ht2)).app (.one upd_same)
      have hB2 : upd (upd H1 t2 (.tup [.int sp, .int pg, .int f, .bl wr])) l1 (.lst (zs2.map aV)) l1 = some (.lst (zs2.map aV)) := upd_same
      have sb2 : SameBut b H (upd (upd H1 t2 (.tup [.int sp, .int pg, .int f, .bl wr])) l1 (.lst (zs2.map aV))) := (sb1.trans (Same.but (Same.new ht2))).put (e1.free l1f)
      generalize upd (upd H1 t2 (.tup [.int sp, .int pg, .int f, .bl wr])) l1 (.lst (zs2.map aV)) = H2 at h2b hE2 hB2 sb2 ⊢
      -- self._entries = self._entries[-MOST_ENTRIES:]
      refine ⟨_, rfl, b, a.C_Buffer, dx, _, _, rfl, h2b, T.c_Buffer, T.n_Buffer__entries, rfl, 2, rfl, _, rfl, l1, _, rfl, SqL.of hB2, fun l2 hl2 => ?_⟩
      have nbl2 : b ≠ l2 := ne_of_none h2b hl2
      refine ⟨_, rfl, b, a.C_Buffer, dx, _, rfl, (upd_ne nbl2).trans h2b, T.c_Buffer, T.n_Buffer__entries, (by show 1 < 1000; decide), ?_⟩
      refine q _ l2 (zs2.drop (zs2.length - 2)) ?_ (sb_free sb2 hl2 (Ne.symm nbl2)) ⟨upd_same, ?_⟩ ?_ ?_
      · exact (sb2.trans (Same.but (Same.new hl2))).own
      · rw [upd_ne (Ne.symm nbl2), upd_same, cut_last2, List.map_drop]
        rw [List.length_map]
      · exact ((hE2.kt (KT.new hl2)).kt (KT.ins ((upd_ne nbl2).trans h2b))).drop _
      · rw [List.map_drop, ez, List.map_append, filter_snd]
        exact last2_drop _ _ ⟨by rw [List.length_append, List.length_singleton, ← filter_snd, List.length_map], by rw [← filter_snd, List.length_map]; exact len1⟩
    | non =>
      refine ⟨_, rfl, y, _, rfl, dp_keep kt1 (by simp [wD, noL, noLs]) hy, _, rfl, iteF ?_⟩
      exact q _ l1 _ sb1 (e1.free l1f) hB1 hE1 (by rw [filter_snd]; rfl)
    | swap n =>
      refine ⟨_, rfl, y, _, rfl, dp_keep kt1 (by simp [wD, noL, noLs]) hy, _, rfl, iteF ?_⟩
      exact q _ l1 _ sb1 (e1.free l1f) hB1 hE1 (by rw [filter_snd]; rfl)
    | file =>
      refine ⟨_, rfl, y, _, rfl, dp_keep kt1 (by simp [wD, noL, noLs]) hy, _, rfl, iteF ?_⟩
      exact q _ l1 _ sb1 (e1.free l1f) hB1 hE1 (by rw [filter_snd]; rfl)
    | held =>
      refine ⟨_, rfl, y, _, rfl, dp_keep kt1 (by simp [wD, noL, noLs]) hy, _, rfl, iteF ?_⟩
      exact q _ l1 _ sb1 (e1.free l1f) hB1 hE1 (by rw [filter_snd]; rfl)
theorem ok_Box_take (T : Txt w K mg a) : FnOk P w K mg base CX0 1 a.f_Box_take a.d_Box_take ["self"] (spBoxTake a.C_Box) := by
  refine T.F_Box_take.ok sc_Box_take (fun vs H Q E h => ?_) (fun cdv A outer s H vs Q E hr h => ?_)
  · obtain ⟨b, dx, l, zs, rfl, _⟩ := h
    rfl
  · obtain ⟨b, dx, l, zs, rfl, hB, q0, q1⟩ := h
    refine ⟨_, (pss_cons (ps_if (pt_cmpR (op_eq) (pe_callB call_len_seq (by rfl) T.b_len (by decide +kernel) (pa_cons (pe_fld (pv 0) rfl) pa_nil)) pe_int (nomark _)) (pss_one (ps_ret pe_non)) pss_nil)
    (pss_one (ps_ret (pe_bm PySem.F.plainAttrs_list PySem.F.slot_list_pop PySem.F.type_list_pop mt_popAt (pe_fld (pv 0) rfl) (pa_cons pe_int pa_nil))))), ?_⟩
    refine ⟨_, rfl, b, a.C_Box, dx, _, _, rfl, hB.ins, T.c_Box, T.n_Box__letters, rfl, l, zs, rfl, .inl (SqL.of hB.lst), rfl, _, rfl, ?_⟩
    cases zs with
    | nil => exact iteT (q0 rfl)
    | cons z r =>
      refine ite2 (fun c => ?_) (fun c => ?_)
      · simp at c
        omega
      · refine ⟨_, rfl, b, a.C_Box, dx, _, _, rfl, hB.ins, T.c_Box, T.n_Box__letters, rfl, .inl ⟨rfl, _, SqL.of hB.lst⟩, l, _, 0, 0, z, rfl, rfl, hB.lst, (by decide), (by decide), ?_, rfl, ?_⟩
        · simp [seqIndex?]
        · exact q1 z r rfl
theorem ok_Box_send (T : Txt w K mg a) : FnOk P w K mg base (L2.CX P w) 6 a.f_Box_send a.d_Box_send ["self", "letter"] (spBoxSend K a.C_Box) := by
  refine T.F_Box_send.okX sc_Box_send (fun vs H Q E h => ?_) (fun cdv A outer s H vs Q E hr h => ?_)
  · obtain ⟨b, dx, l, zs, v, d, rfl, _⟩ := h
    rfl
  · obtain ⟨b, dx, l, zs, v, d, rfl, hB, hz, hd, few, ok, q⟩ := h
    refine ⟨_, (pss_cons (ps_if (pt_not (pt_val (pe_call (ok_is_letter T) (hr.mono (by decide)) rfl T.m_is_letter T.F_is_letter.kp T.B_is_letter .nil pass0 (pa_cons (pv 1) pa_nil)))) (pss_one (ps_raise rfl (takes_of rfl rfl rfl rfl) (mk_exc0 T.x_NotValid T.xi_NotValid T.xt_NotValid (ok_PageError_init T) (hr.mono (by decide)) T.B_PageError_init pass0 rfl T.m_NotValid))) pss_nil)
    (pss_one (ps_expr (pe_bm PySem.F.plainAttrs_list PySem.F.slot_list_append PySem.F.type_list_append mt_append (pe_fld (pv 0) rfl) (pa_cons (pv 1) pa_nil))))), ?_⟩
    refine ⟨_, rfl, v, d, rfl, hd, few, fun H1 e1 => ⟨_, rfl, ?_⟩⟩
    rw [ok]
    exact iteF ⟨_, rfl, b, a.C_Box, dx, _, _, rfl, e1 _ _ hB.ins, T.c_Box, T.n_Box__letters, rfl, .inl ⟨rfl, _, SqL.of (e1 _ _ hB.lst)⟩, _, rfl, l, zs, v, rfl, rfl, e1 _ _ hB.lst, Nat.lt_of_le_of_lt hz (by decide), q H1 e1⟩

theorem st_cell {K : PySem.W.Frag} {C : Cl4} {H : Hp} {x : MX} {s : MS} (hM : MemAt K C H x s) {c : Int} (h0 : 0 ≤ c) (h1 : c < cellsN x.p x.f x.b) : ∃ (vs : List V) (v : V) (j : Nat), H x.cl = some (.lst vs) ∧ DpAll K H vs s.cells ∧ c = (j : Int) ∧ j < vs.length ∧ vs[j]? = some v ∧ Dp K H v (cellAt s.cells c) := by
  obtain ⟨vs, hc, hd⟩ := hM.cells
  have lc := hM.lenC
  have lv := dpAll_len hd
  obtain ⟨j, rfl⟩ : ∃ j : Nat, c = (j : Int) := ⟨c.toNat, by omega⟩
  have hj : j < vs.length := by omega
  obtain ⟨d, e1, e2⟩ := dpAll_get hd (List.getElem?_eq_getElem hj)
  refine ⟨vs, vs[j], j, hc, hd, rfl, hj, List.getElem?_eq_getElem hj, ?_⟩
  unfold cellAt
  rw [show ((j : Nat) : Int).toNat = j from rfl, e1]
  exact e2
theorem st_buf {K : PySem.W.Frag} {C : Cl4} {H : Hp} {x : MX} {s : Ts} (hM : MemAt K C H x s.ms) {p : Nat} (hp : (p : Int) < x.p) : ∃ (y : Addr × Addr) (l : Addr) (zs : List (Addr × En)), x.bs[p]? = some y ∧ (x.bs.map fun y => V.ref y.1)[p]? = some (.ref y.1) ∧ BufAt C.Cb H y.1 y.2 l (zs.map aV) ∧ EnAll H zs ∧ zs.map Prod.snd = bufAt s p ∧ zs.length ≤ 2 ∧ p < s.bufs.length := by
  have l1 := hM.lenB.1
  have l2 := hM.lenB.2
  have h1 : p < x.bs.length := by omega
  have h2 : p < s.bufs.length := by
    have : s.ms.bufs.length = s.bufs.length := rfl
    omega
  have e2 := bufs_at s h2
  obtain ⟨l, zs, h3, h4, h5, _⟩ := hM.buf p _ _ (List.getElem?_eq_getElem h1) e2
  have lm := hM.lim _ (mem_of_get e2)
  exact ⟨x.bs[p], l, zs, List.getElem?_eq_getElem h1, by rw [List.getElem?_map, List.getElem?_eq_getElem h1]; rfl, h3, h4, h5, by rw [← h5, List.length_map] at lm; exact lm, h2⟩
theorem st_box {K : PySem.W.Frag} {C : Cl4} {H : Hp} {x : MX} {s : Ts} (hM : MemAt K C H x s.ms) {p : Nat} (hp : (p : Int) < x.p) : ∃ (y : Addr × Addr × Addr) (vs : List V), x.xs[p]? = some y ∧ (x.xs.map fun y => V.ref y.1)[p]? = some (.ref y.1) ∧ BoxAt C.Cx H y.1 y.2.1 y.2.2 vs ∧ DpAll K H vs ((boxAt s p).map ltD) ∧ p < s.boxes.length := by
  have l1 := hM.lenX.1
  have l2 := hM.lenX.2
  have h1 : p < x.xs.length := by omega
  have e0 : s.ms.boxes.length = s.boxes.length := List.length_map _
  have h2 : p < s.boxes.length := by omega
  obtain ⟨vs, h3, h4⟩ := hM.box p _ _ (List.getElem?_eq_getElem h1) (boxes_at s h2)
  exact ⟨x.xs[p], vs, List.getElem?_eq_getElem h1, by rw [List.getElem?_map, List.getElem?_eq_getElem h1]; rfl, h3, h4, h2⟩
theorem ok_Memory__take (T : Txt w K mg a) : FnOk P w K mg base CX0 2 a.f_Memory__take a.d_Memory__take ["self", "processor"] (spTakeM K ⟨a.C_Memory, a.C_Sizes, a.C_Buffer, a.C_Box⟩) := by
  refine T.F_Memory__take.ok sc_Memory__take (fun vs H Q E h => ?_) (fun cdv A outer s H vs Q E hr h => ?_)
  · obtain ⟨x, st, p, rfl, _⟩ := h
    rfl
  · obtain ⟨x, st, p, rfl, hM, tk, hp, q⟩ := h
    refine ⟨_, (pss_cons (ps_set (i := 2) sc_Memory__take.nd rfl (Or.inl rfl) (pe_meth0 (pe_ix ix_list (pe_fld (pv 0) rfl) (pv 1) (fun _ _ => rfl)) T.c_Box T.M_Box_take (ok_Box_take T) (hr.mono (by decide)) T.B_Box_take .nil pass0))
    (pss_cons (ps_if (pt_cmpR (op_isN) (pv 2) pe_non (by rfl)) (pss_one (ps_ret pe_bl)) pss_nil)
    (pss_cons (ps_asg (pv 2) (pg_tup rfl (pgs_cons (pg_name (i := 3) sc_Memory__take.nd rfl (Or.inl rfl)) (pgs_cons (pg_name (i := 4) sc_Memory__take.nd rfl (Or.inl rfl)) pgs_nil))))
    (pss_cons (ps_expr (pe_meth (pe_ix ix_list (pe_fld (pv 0) rfl) (pv 1) (fun _ _ => rfl)) T.c_Buffer T.M_Buffer_drop (ok_Buffer_drop T) (hr.mono (by decide)) T.B_Buffer_drop .nil pass0 (pa_cons (pv 4) pa_nil)))
    (pss_cons (ps_asg (pv 3) (pg_sub (pe_fld (pv 0) rfl) (pe_meth (pe_fld (pv 0) rfl) T.c_Sizes T.M_Sizes_acknowledge (ok_Sizes_acknowledge T) (hr.mono (by decide)) T.B_Sizes_acknowledge .nil pass0 (pa_cons (pv 1) pa_nil)) set_list))
    (pss_one (ps_ret pe_bl))))))), ?_⟩
    obtain ⟨y, vs, hy, hyv, hX, hXd, hpx⟩ := st_box hM hp
    refine ⟨_, rfl, x.m, _, x.dx, _, _, rfl, hM.ins, T.c_Memory, T.n_Memory_boxes, rfl, _, rfl, x.xl, _, _, _, rfl, rfl, SqL.of hM.xl, at_nat hyv, y.1, y.2.1, _, rfl, hX.ins, rfl, y.1, y.2.1, y.2.2, vs, rfl, hX, ?_, ?_⟩
    · rintro rfl
      cases e : boxAt st p with
      | cons l r =>
        rw [e] at hXd
        cases hXd
      | nil =>
        have e1 : runR x.p st p .take = ⟨st.cells, st.bufs, st.boxes, .bool false⟩ := by
          show takeO st p (boxAt st p) = _
          rw [e]
          rfl
        have e2 : after x.p st p .take = st := by
          unfold after
          rw [e1]
        rw [e1, e2] at q
        exact ⟨_, rfl, rfl, _, rfl, iteT (q H _ (Fr.refl x H) hM (.bl false))⟩
    · rintro z r rfl
      cases e : boxAt st p with
      | nil =>
        rw [e] at hXd
        cases hXd
      | cons l lr =>
        rw [e, List.map_cons] at hXd
        cases hXd with
        | cons hz hrd =>
        have hM1 := Tr.MemAt.setBox hM hy hrd (shs_lts lr)
        have f1 : Fr x H (upd H y.2.2 (.lst r)) := Fr.box hM hy
        have hz1 := dp_keep f1.kt (noL_lt l) hz
        generalize upd H y.2.2 (.lst r) = H1 at hM1 f1 hz1 ⊢
        have hM1' : MemAt K ⟨a.C_Memory, a.C_Sizes, a.C_Buffer, a.C_Box⟩ H1 x (Ts.ms ⟨st.n, st.cells, st.bufs, st.boxes.set p lr, st.log⟩) := by
          have e3 : (Ts.ms ⟨st.n, st.cells, st.bufs, st.boxes.set p lr, st.log⟩) = ⟨st.ms.n, st.ms.cells, st.ms.bufs, st.ms.boxes.set p (lr.map ltD), st.ms.log⟩ := by
            unfold Ts.ms
            rw [map_set]
          rw [e3]
          exact hM1
        obtain ⟨yb, l0, zs, hb, hbv, hB, hE, hzs, lz, hpb⟩ := st_buf hM1' hp
        have hbf : bufAt ⟨st.n, st.cells, st.bufs, st.boxes.set p lr, st.log⟩ p = bufAt st p := rfl
        rw [hbf] at hzs
        cases hz1 with
        | @tup t xs _ sT aT =>
        cases aT with
        | cons d0 aT =>
        cases aT with
        | @cons vp _ _ _ d1 aT =>
        cases aT
        cases d0
        refine ⟨_, rfl, rfl, _, rfl, ifF (by simp) ⟨_, rfl, t, _, rfl, sT, rfl, _, _, rfl, _, _, rfl, rfl, ?_⟩⟩
        refine ⟨_, rfl, x.m, _, x.dx, _, _, rfl, hM1.ins, T.c_Memory, T.n_Memory_buffers, rfl, _, rfl, x.bl, _, _, _, rfl, rfl, SqL.of hM1.bl, at_nat hbv, yb.1, yb.2, _, rfl, hB.ins, rfl, _, rfl, yb.1, yb.2, l0, zs, vp, l.ps, rfl, hB, hE, by omega, .inr d1, fun H2 l2 sb2 l2f hB2 => ?_⟩
        have kt2 := sb2.kt hB.ins
        have hM2 := Tr.MemAt.setBuf hM1' hb sb2 hB2 ((hE.kt kt2).filter _) l2f (Nat.le_trans (List.length_filter_le _ _) lz)
        have f2 := Fr.buf hM1' hb sb2 hB2 l2f
        have okS := okSz_at hM.okS
        obtain ⟨vc, v0, j, hc, hcd, ej, hj, hjv, _⟩ := st_cell hM2 (c := 1 + (p : Int)) (by omega) (by unfold cellsN; omega)
        refine ⟨_, rfl, _, rfl, x.m, _, x.dx, _, _, rfl, hM2.ins, T.c_Memory, T.n_Memory__cells, rfl, _, rfl, x.m, _, x.dx, _, _, rfl, hM2.ins, T.c_Memory, T.n_Memory_sizes, rfl, x.z, x.dz, _, rfl, hM2.sz, rfl, _, rfl, x.z, x.dz, x.p, x.f, x.b, _, rfl, hM2.sz, x.cl, vc, _, j, rfl, rfl, hc, ?_, ?_⟩
        · rw [ej]
          exact ixN_nat hj
        · have hM3 := set_cells (j := j) hM2 hc hcd (.int l.t) (by simp only [noL]) ((sh_int _).up (by decide))
          have f3 : Fr x H2 (upd H2 x.cl (.lst (vc.set j (.int l.t)))) := Fr.keep hM2 (Keep.put (by simp))
          have e1 : runR x.p st p .take = ⟨st.cells.set (1 + p) (.int l.t), st.bufs.set p ((bufAt st p).filter (keep l.ps)), st.boxes.set p lr, .bool true⟩ := by
            show takeO st p (boxAt st p) = _
            rw [e]
            rfl
          have e2 : (after x.p st p .take).ms = ⟨st.n, st.cells.set j (.int l.t), st.bufs.set p ((zs.filter fun z => keep l.ps z.2).map Prod.snd), (Ts.ms ⟨st.n, st.cells, st.bufs, st.boxes.set p lr, st.log⟩).boxes, st.log⟩ := by
            unfold after Ts.ms
            rw [e1, filter_snd, hzs, show j = 1 + p by omega]
          rw [e2, e1] at q
          exact q _ _ ((f1.trans f2).trans f3) hM3 (.bl true)
theorem ok_Memory__walk (T : Txt w K mg a) : FnOk P w K mg base CX0 3 a.f_Memory__walk a.d_Memory__walk ["self", "processor", "space", "page"] (spWalkM K ⟨a.C_Memory, a.C_Sizes, a.C_Buffer, a.C_Box⟩) := by
  refine T.F_Memory__walk.ok sc_Memory__walk (fun vs H Q E h => ?_) (fun cdv A outer s H vs Q E hr h => ?_)
  · obtain ⟨x, st, p, sp, g, rfl, _⟩ := h
    rfl
  · obtain ⟨x, st, p, sp, g, rfl, hM, hp, ⟨⟨⟨s0, s1⟩, ⟨g0, g1⟩⟩, xw, hw⟩, q⟩ := h
    refine ⟨_, (pss_cons (ps_set (i := 4) sc_Memory__walk.nd rfl (Or.inl rfl) (pe_ix ix_list (pe_fld (pv 0) rfl) (pe_meth (pe_fld (pv 0) rfl) T.c_Sizes T.M_Sizes_word (ok_Sizes_word T) (hr.mono (by decide)) T.B_Sizes_word .nil pass0 (pa_cons (pv 2) (pa_cons (pv 3) pa_nil))) (fun _ _ => rfl)))
    (pss_cons (ps_expr (pe_meth (pe_ix ix_list (pe_fld (pv 0) rfl) (pv 1) (fun _ _ => rfl)) T.c_Buffer T.M_Buffer_put (ok_Buffer_put T) (hr.mono (by decide)) T.B_Buffer_put .nil pass0 (pa_cons (pv 2) (pa_cons (pv 3) (pa_cons (pv 4) pa_nil)))))
    (pss_one (ps_ret (pv 4))))), ?_⟩
    have okS := okSz_at hM.okS
    obtain ⟨vc, v, j, hc, hcd, ej, hj, hjv, hv⟩ := st_cell hM (c := wordC x.p sp g) (by unfold wordC; omega) (by unfold wordC cellsN; omega)
    refine ⟨_, rfl, x.m, _, x.dx, _, _, rfl, hM.ins, T.c_Memory, T.n_Memory__cells, rfl, _, rfl, x.m, _, x.dx, _, _, rfl, hM.ins, T.c_Memory, T.n_Memory_sizes, rfl, x.z, x.dz, _, rfl, hM.sz, rfl, _, rfl, _, rfl, x.z, x.dz, x.p, x.f, x.b, _, _, rfl, hM.sz, x.cl, vc, _, v, rfl, rfl, SqL.of hc, ?_, ?_⟩
    · show atI vc (wordC x.p sp g) = some v
      rw [ej]
      exact at_nat hjv
    obtain ⟨yb, l0, zs, hb, hbv, hB, hE, hzs, lz, hpb⟩ := st_buf hM hp
    have hcw : cellAt st.ms.cells (wordC x.p sp g) = wD xw := hw
    rw [hcw] at hv
    refine ⟨_, rfl, x.m, _, x.dx, _, _, rfl, hM.ins, T.c_Memory, T.n_Memory_buffers, rfl, _, rfl, x.bl, _, _, _, rfl, rfl, SqL.of hM.bl, at_nat hbv, yb.1, yb.2, _, rfl, hB.ins, rfl, _, rfl, _, rfl, _, rfl, yb.1, yb.2, l0, zs, sp, g, v, xw, rfl, hB, hE, lz, hv, fun H2 l2 zs2 sb2 l2f hB2 hE2 hz2 => ?_⟩
    have lz2 : zs2.length ≤ 2 := by
      rw [← List.length_map (f := Prod.snd), hz2]
      exact putM_len sp g xw (by rw [List.length_map]; exact lz)
    have hM2 := Tr.MemAt.setBuf hM hb sb2 hB2 hE2 l2f lz2
    have f2 := Fr.buf hM hb sb2 hB2 l2f
    have e2 : (after x.p st p (.walk sp g)).ms = ⟨st.n, st.cells, st.bufs.set p (zs2.map Prod.snd), st.ms.boxes, st.log⟩ := by
      show (⟨st.n, st.cells, st.bufs.set p (putM sp g (wdOf (cellAt st.cells (wordC x.p sp g))) (bufAt st p)), st.boxes.map (List.map ltD), st.log⟩ : MS) = _
      rw [hw, putM_of, hz2, hzs]
      rfl
    have e3 : (runR x.p st p (.walk sp g)).val = wD xw := hw
    rw [e2, e3] at q
    exact ⟨_, rfl, q H2 v f2 hM2 (dp_keep f2.kt (by cases xw <;> simp [wD, noL, noLs]) hv)⟩

theorem ok_Memory__result (T : Txt w K mg a) : FnOk P w K mg base CX0 8 a.f_Memory__result a.d_Memory__result ["self", "processor", "request"] (spResM K ⟨a.C_Memory, a.C_Sizes, a.C_Buffer, a.C_Box⟩) := by
  refine T.F_Memory__result.ok sc_Memory__result (fun vs H Q E h => ?_) (fun cdv A outer s H vs Q E hr h => ?_)
  · obtain ⟨x, st, p, t, r, rfl, _⟩ := h
    rfl
  · obtain ⟨x, st, p, t, r, rfl, hM, tk, hp, hd, ok, q⟩ := h
    refine ⟨_, (pss_cons (ps_match (pv 2) (pc_cons (is := [3]) rfl sc_Memory__result.nd (.cons (i := 3) rfl (Or.inl rfl) .nil) (pss_one (ps_ret (pe_ix ix_list (pe_fld (pv 0) rfl) (pv 3) (fun _ _ => rfl))))
    (pc_cons (is := [3, 4]) rfl sc_Memory__result.nd (.cons (i := 3) rfl (Or.inl rfl) (.cons (i := 4) rfl (Or.inl rfl) .nil)) (pss_one (ps_asg (pv 4) (pg_sub (pe_fld (pv 0) rfl) (pv 3) set_list)))
    (pc_cons (is := [3, 5, 6]) rfl sc_Memory__result.nd (.cons (i := 3) rfl (Or.inl rfl) (.cons (i := 5) rfl (Or.inl rfl) (.cons (i := 6) rfl (Or.inl rfl) .nil))) (pss_one ps_never)
    (pc_cons (is := [7, 8]) rfl sc_Memory__result.nd (.cons (i := 7) rfl (Or.inl rfl) (.cons (i := 8) rfl (Or.inl rfl) .nil)) (pss_one (ps_expr (pe_meth (pe_ix ix_list (pe_fld (pv 0) rfl) (pv 7) (fun _ _ => rfl)) T.c_Box T.M_Box_send (ok_Box_send T) (hr.mono (by decide)) T.B_Box_send .nil passL (pa_cons (pv 8) pa_nil))))
    (pc_cons (is := []) rfl sc_Memory__result.nd .nil (pss_one (ps_ret (pe_meth (pv 0) T.c_Memory T.M_Memory__take (ok_Memory__take T) (hr.mono (by decide)) T.B_Memory__take .nil pass0 (pa_cons (pv 1) pa_nil))))
    (pc_cons (is := [9, 10]) rfl sc_Memory__result.nd (.cons (i := 9) rfl (Or.inl rfl) (.cons (i := 10) rfl (Or.inl rfl) .nil)) (pss_one (ps_ret (pe_meth (pv 0) T.c_Memory T.M_Memory__walk (ok_Memory__walk T) (hr.mono (by decide)) T.B_Memory__walk .nil pass0 (pa_cons (pv 1) (pa_cons (pv 9) (pa_cons (pv 10) pa_nil))))))
    (pc_cons (is := [9, 10, 11]) rfl sc_Memory__result.nd (.cons (i := 9) rfl (Or.inl rfl) (.cons (i := 10) rfl (Or.inl rfl) (.cons (i := 11) rfl (Or.inl rfl) .nil))) (pss_one ps_never)
    (pc_cons (is := [9, 10, 11, 4]) rfl sc_Memory__result.nd (.cons (i := 9) rfl (Or.inl rfl) (.cons (i := 10) rfl (Or.inl rfl) (.cons (i := 11) rfl (Or.inl rfl) (.cons (i := 4) rfl (Or.inl rfl) .nil)))) (pss_one ps_never)
    (pc_cons (is := [9, 10, 11, 5, 6]) rfl sc_Memory__result.nd (.cons (i := 9) rfl (Or.inl rfl) (.cons (i := 10) rfl (Or.inl rfl) (.cons (i := 11) rfl (Or.inl rfl) (.cons (i := 5) rfl (Or.inl rfl) (.cons (i := 6) rfl (Or.inl rfl) .nil))))) (pss_one ps_never)
    pc_nil))))))))))
    (pss_one (ps_ret pe_non))), ?_⟩
    cases r with
    | write c d =>
      cases hd with
      | @tup _ xs _ sT aT =>
      cases aT with
      | cons d0 aT =>
      cases aT with
      | cons d1 aT =>
      cases aT with
      | @cons v _ _ _ d2 aT =>
      cases aT
      cases d0
      cases d1
      obtain ⟨⟨c0, c1⟩, vk⟩ := ok
      obtain ⟨vc, v0, j, hc, hcd, ej, hj, hjv, hv⟩ := st_cell hM c0 c1
      refine ⟨_, rfl, t, "write", [.int c, v], rfl, sT, fun k => absurd k.1 (by decide +kernel), fun _ => ⟨fun _ => ?_, fun k => absurd ⟨by decide +kernel, rfl⟩ k⟩⟩
      refine ⟨_, rfl, _, rfl, x.m, _, x.dx, _, _, rfl, hM.ins, T.c_Memory, T.n_Memory__cells, rfl, _, rfl, x.cl, vc, _, j, rfl, rfl, hc, ?_, ?_⟩
      · rw [ej]
        exact ixN_nat hj
      · have hM2 := set_cells (j := j) hM hc hcd d2 vk.no (vk.sh.up (by decide))
        have e1 : (after x.p st p (.write c d)).ms = ⟨st.n, st.cells.set j d, st.bufs, st.ms.boxes, st.log⟩ := by
          show (⟨st.n, st.cells.set c.toNat d, st.bufs, st.boxes.map (List.map ltD), st.log⟩ : MS) = _
          rw [ej]
          rfl
        rw [e1] at q
        exact q _ _ (Fr.keep hM (Keep.put (by simp))) hM2 .non
    | walk sp g =>
      cases hd with
      | @tup _ xs _ sT aT =>
      cases aT with
      | cons d0 aT =>
      cases aT with
      | cons d1 aT =>
      cases aT with
      | cons d2 aT =>
      cases aT
      cases d0
      cases d1
      cases d2
      refine ⟨_, rfl, t, "walk", [.int sp, .int g], rfl, sT, fun k => absurd k.1 (by decide +kernel), fun _ => ⟨fun k => absurd k.1 (by decide +kernel), fun _ => ⟨fun k => absurd k.1 (by decide +kernel), fun _ => ⟨fun k => absurd k.1 (by decide +kernel), fun _ => ⟨fun k => absurd k.1 (by decide +kernel), fun _ => ⟨fun _ => ?_, fun k => absurd ⟨by decide +kernel, rfl⟩ k⟩⟩⟩⟩⟩⟩
      exact ⟨_, rfl, x.m, x.dx, _, rfl, hM.ins, rfl, _, rfl, _, rfl, _, rfl, x, st, p, sp, g, rfl, hM, hp, ok, q⟩
    | read c =>
      cases hd with
      | @tup _ xs _ sT aT =>
      cases aT with
      | cons d0 aT =>
      cases aT with
      | cons d1 aT =>
      cases aT
      cases d0
      cases d1
      obtain ⟨vc, v0, j, hc, hcd, ej, hj, hjv, hv⟩ := st_cell hM ok.1 ok.2
      refine ⟨_, rfl, t, "read", [.int c], rfl, sT, fun _ => ?_, fun k => absurd ⟨by decide +kernel, rfl⟩ k⟩
      exact ⟨_, rfl, x.m, _, x.dx, _, _, rfl, hM.ins, T.c_Memory, T.n_Memory__cells, rfl, _, rfl, x.cl, vc, _, v0, rfl, rfl, SqL.of hc, (by rw [ej]; exact at_nat hjv), q H v0 (Fr.refl x H) hM hv⟩
    | send to l =>
      cases hd with
      | @tup _ xs _ sT aT =>
      cases aT with
      | cons d0 aT =>
      cases aT with
      | cons d1 aT =>
      cases aT with
      | @cons v _ _ _ d2 aT =>
      cases aT
      cases d0
      cases d1
      obtain ⟨y, vs, hy, hyv, hX, hXd, hpx⟩ := st_box hM ok.1
      have lvs : vs.length ≤ 1000 := by
        rw [dpAll_len hXd, List.length_map]
        have := tk.bx _ (List.getElem_mem hpx)
        unfold boxAt
        rw [List.getElem?_eq_getElem hpx]
        exact this.1
      refine ⟨_, rfl, t, "send", [.int (to : Int), v], rfl, sT, fun k => absurd k.1 (by decide +kernel), fun _ => ⟨fun k => absurd k.1 (by decide +kernel), fun _ => ⟨fun k => absurd k.1 (by decide +kernel), fun _ => ⟨fun _ => ?_, fun k => absurd ⟨by decide +kernel, rfl⟩ k⟩⟩⟩⟩
      refine ⟨_, rfl, x.m, _, x.dx, _, _, rfl, hM.ins, T.c_Memory, T.n_Memory_boxes, rfl, _, rfl, x.xl, _, _, _, rfl, rfl, SqL.of hM.xl, at_nat hyv, y.1, y.2.1, _, rfl, hX.ins, rfl, _, rfl, y.1, y.2.1, y.2.2, vs, v, ltD l, rfl, hX, lvs, d2, few_lt ok.2.few, letter_ok ok.2, fun H1 e1 => ?_⟩
      have hM1 := hM.same e1
      have e3 : (boxAt st to).map ltD ++ [ltD l] = (boxAt st to ++ [l]).map ltD := by rw [List.map_append]; rfl
      have hM2 := Tr.MemAt.setBox hM1 hy (dpAll_app (dpAll_mono e1 hXd) (.cons (dp_mono e1 d2) .nil)) (by rw [e3]; exact shs_lts _)
      have e1' : (after x.p st p (.send to l)).ms = ⟨st.n, st.cells, st.bufs, st.ms.boxes.set to ((boxAt st to).map ltD ++ [ltD l]), st.log⟩ := by
        show (⟨st.n, st.cells, st.bufs, (st.boxes.set to (boxAt st to ++ [l])).map (List.map ltD), st.log⟩ : MS) = _
        rw [map_set, e3]
        rfl
      rw [e1'] at q
      exact q _ _ ((Fr.same hM e1).trans (Fr.box hM1 hy)) hM2 .non
    | take =>
      cases hd with
      | @tup _ xs _ sT aT =>
      cases aT with
      | cons d0 aT =>
      cases aT
      cases d0
      refine ⟨_, rfl, t, "take", [], rfl, sT, fun k => absurd k.1 (by decide +kernel), fun _ => ⟨fun k => absurd k.1 (by decide +kernel), fun _ => ⟨fun k => absurd k.1 (by decide +kernel), fun _ => ⟨fun k => absurd k.1 (by decide +kernel), fun _ => ⟨fun _ => ?_, fun k => absurd ⟨by decide +kernel, rfl⟩ k⟩⟩⟩⟩⟩
      exact ⟨_, rfl, x.m, x.dx, _, rfl, hM.ins, rfl, _, rfl, x, st, p, rfl, hM, tk, hp, q⟩
theorem run_log (P : Int) (s : Ts) (n : Nat) (l : List PyData) (p : Nat) (r : Rq) : runR P ⟨n, s.cells, s.bufs, s.boxes, l⟩ p r = runR P s p r := by
  cases r <;> rfl
theorem ok_Memory_access (T : Txt w K mg a) : FnOk P w K mg base (L2.CX P w) 9 a.f_Memory_access a.d_Memory_access ["self", "processor", "request"] (spAcc K ⟨a.C_Memory, a.C_Sizes, a.C_Buffer, a.C_Box⟩) := by
  refine T.F_Memory_access.okX sc_Memory_access (fun vs H Q E h => ?_) (fun cdv A outer s H vs Q E hr h => ?_)
  · obtain ⟨x, st, p, y, r, rfl, _⟩ := h
    rfl
  · obtain ⟨x, st, p, y, r, rfl, hM, tk, hp, hd, ok, lim, q⟩ := h
    refine ⟨_, (pss_cons (ps_if (PW.pt (pw_or (pt_not (pt_val (pe_call (ok_is_number_below T) (hr.mono (by decide)) rfl T.m_is_number_below T.F_is_number_below.kp T.B_is_number_below .nil pass0 (pa_cons (pv 1) (pa_cons (pe_fld (pe_fld (pv 0) rfl) rfl) pa_nil))))) (pw_or1 (pt_not (pt_val (pe_call (ok_is_request T) (hr.mono (by decide)) rfl T.m_is_request T.F_is_request.kp T.B_is_request .nil pass0 (pa_cons (pv 2) (pa_cons (pe_fld (pv 0) rfl) pa_nil)))))))) (pss_one (ps_raise rfl (takes_of rfl rfl rfl rfl) (mk_exc0 T.x_NotValid T.xi_NotValid T.xt_NotValid (ok_PageError_init T) (hr.mono (by decide)) T.B_PageError_init pass0 rfl T.m_NotValid))) pss_nil)
    (pss_cons (ps_fldaug (pv 0) pe_int in_add)
    (pss_cons (ps_expr (pe_bm PySem.F.plainAttrs_list PySem.F.slot_list_append PySem.F.type_list_append mt_append (pe_fld (pv 0) rfl) (pa_cons (pe_tup (pa_cons (pe_fld (pv 0) rfl) (pa_cons (pv 1) (pa_cons (pv 2) pa_nil)))) pa_nil)))
    (pss_one (ps_ret (pe_tup (pa_cons (pe_meth (pv 0) T.c_Memory T.M_Memory__result (ok_Memory__result T) (hr.mono (by decide)) T.B_Memory__result .nil pass0 (pa_cons (pv 1) (pa_cons (pv 2) pa_nil))) (pa_cons (pe_fld (pv 0) rfl) pa_nil)))))))), ?_⟩
    obtain ⟨few, nod, shd⟩ := rq_shape ok
    refine ⟨_, rfl, _, rfl, x.m, _, x.dx, _, _, rfl, hM.ins, T.c_Memory, T.n_Memory_sizes, rfl, x.z, _, x.dz, _, _, rfl, hM.sz, T.c_Sizes, T.n_Sizes_processors, rfl, _, .int (p : Int), _, rfl, .int (p : Int), _, rfl, ?_⟩
    have e : belowD (.int (p : Int)) x.p = true := below_of ⟨Int.natCast_nonneg _, hp⟩
    rw [e]
    refine iteF ⟨_, rfl, _, rfl, x.m, _, x.dx, _, _, rfl, hM.ins, T.c_Memory, T.n_Memory_sizes, rfl, y, rqD r, x.z, x.dz, x.p, x.f, x.b, rfl, hd, few, hM.sz, fun H1 e1 => ⟨_, rfl, ?_⟩⟩
    rw [req_true ok]
    have hM1 := hM.same e1
    have hd1 := dp_mono e1 hd
    obtain ⟨t, rfl⟩ : ∃ t, y = V.ref t := by
      cases r <;> cases hd1 <;> exact ⟨_, rfl⟩
    refine iteF ⟨_, rfl, x.m, a.C_Memory, x.dx, _, _, rfl, hM1.ins, T.c_Memory, T.n_Memory_count, rfl, _, _, rfl, rfl, x.dx, _, hM1.ins, (by show 6 < 1000; decide), ?_⟩
    change tSeq _ _ _ _ (upd H1 x.m (.ins a.C_Memory x.dx [("sizes", .ref x.z), ("count", .int ((st.n : Nat) + 1 : Int)), ("buffers", .ref x.bl), ("boxes", .ref x.xl), ("_cells", .ref x.cl), ("_log", .ref x.lg)]))
    have nd := hM.ndL
    simp only [List.nodup_cons, List.mem_cons, not_or] at nd
    obtain ⟨vl, hl1, hld1⟩ := hM1.log
    obtain ⟨vc, hc1, hcd1⟩ := hM1.cells
    have eN : ((st.n : Nat) + 1 : Int) = ((st.n + 1 : Nat) : Int) := by omega
    rw [eN]
    obtain ⟨H2, e2⟩ : ∃ H2, H2 = upd H1 x.m (.ins a.C_Memory x.dx [("sizes", .ref x.z), ("count", .int ((st.n + 1 : Nat))), ("buffers", .ref x.bl), ("boxes", .ref x.xl), ("_cells", .ref x.cl), ("_log", .ref x.lg)]) := ⟨_, rfl⟩
    rw [← e2]
    have hm2 : H2 x.m = some (.ins a.C_Memory x.dx [("sizes", .ref x.z), ("count", .int ((st.n + 1 : Nat))), ("buffers", .ref x.bl), ("boxes", .ref x.xl), ("_cells", .ref x.cl), ("_log", .ref x.lg)]) := by rw [e2]; exact upd_same
    have kp2 : Keep [x.m] H1 H2 := by rw [e2]; exact Keep.put (by simp)
    have kt2 : KT H1 H2 := by rw [e2]; exact KT.ins hM1.ins
    have nlm : x.lg ≠ x.m := ne_of hl1 hM1.ins (fun z => nomatch z)
    have ncm : x.cl ≠ x.m := ne_of hc1 hM1.ins (fun z => nomatch z)
    have hl2 := kp2 _ _ (by simpa using nlm) hl1
    have hc2 := kp2 _ _ (by simpa using ncm) hc1
    clear e2
    refine ⟨_, rfl, x.m, _, x.dx, _, _, rfl, hm2, T.c_Memory, T.n_Memory__log, rfl, .inl ⟨rfl, _, SqL.of hl2⟩, _, rfl, x.m, _, x.dx, _, _, rfl, hm2, T.c_Memory, T.n_Memory_count, rfl, _, rfl, _, rfl, (by show 3 ≤ sizeLine; decide), fun t3 h3 => ?_⟩
    have e3 := Same.new (o := .tup [.int ((st.n + 1 : Nat)), .int (p : Int), .ref t]) h3
    have hl3 := e3 _ _ hl2
    refine ⟨x.lg, vl, _, rfl, rfl, hl3, ?_, ?_⟩
    · have : vl.length = st.n := by rw [dpAll_len hld1]; exact hM.lenL
      rw [this]
      exact Nat.lt_of_le_of_lt lim (by decide)
    have kt4 : KT H2 (upd (upd H2 t3 (.tup [.int ((st.n + 1 : Nat)), .int (p : Int), .ref t])) x.lg (.lst (vl ++ [.ref t3]))) := (KT.of e3).trans (KT.lst hl3)
    have kp4 : Keep [x.lg] H2 (upd (upd H2 t3 (.tup [.int ((st.n + 1 : Nat)), .int (p : Int), .ref t])) x.lg (.lst (vl ++ [.ref t3]))) := (Keep.same e3).trans (Keep.put (by simp))
    have ht3 : (upd (upd H2 t3 (.tup [.int ((st.n + 1 : Nat)), .int (p : Int), .ref t])) x.lg (.lst (vl ++ [.ref t3]))) t3 = some (.tup [.int ((st.n + 1 : Nat)), .int (p : Int), .ref t]) := (upd_ne (ne_of_none hl2 h3).symm).trans upd_same
    have hl4 : (upd (upd H2 t3 (.tup [.int ((st.n + 1 : Nat)), .int (p : Int), .ref t])) x.lg (.lst (vl ++ [.ref t3]))) x.lg = some (.lst (vl ++ [.ref t3])) := upd_same
    generalize upd (upd H2 t3 (.tup [.int ((st.n + 1 : Nat)), .int (p : Int), .ref t])) x.lg (.lst (vl ++ [.ref t3])) = H4 at kt4 kp4 ht3 hl4 ⊢
    have kt14 := kt2.trans kt4
    have hd4 : Dp K H4 (.ref t) (rqD r) := dp_keep kt14 nod hd1
    have kpA : Keep [x.m, x.cl, x.lg] H1 H4 := (kp2.up (by simp)).trans (kp4.up (by simp))
    have shR : Sh 20 (logT (st.n + 1) p r) := (sh_tup (n := 6) (sh_c ((sh_int _).up (by decide)) (sh_c ((sh_int _).up (by decide)) (sh_c shd sh_n)))).up (by decide)
    have hM4 : MemAt K ⟨a.C_Memory, a.C_Sizes, a.C_Buffer, a.C_Box⟩ H4 x (Ts.ms ⟨st.n + 1, st.cells, st.bufs, st.boxes, st.log ++ [logT (st.n + 1) p r]⟩) := by
      refine hM1.re kt14 kpA (kp4 _ _ (by simpa using Ne.symm nlm) hm2) ⟨vc, kp4 _ _ (by simpa using nd.2.2.1.1) hc2, dpAll_keep kt14 hM.shC.no hcd1⟩ ⟨_, hl4, dpAll_app (dpAll_keep kt14 hM.shL.no hld1) (.cons (.tup (SqT.of ht3) (.cons (.int _) (.cons (.int _) (.cons hd4 .nil)))) .nil)⟩ rfl ?_ hM.shC ?_
      · rw [List.length_append, List.length_singleton]
        exact congrArg (· + 1) hM.lenL
      · intro d hd
        rcases List.mem_append.mp hd with hd | hd
        · exact hM.shL d hd
        · rw [List.mem_singleton.mp hd]
          refine ⟨?_, shR⟩
          simp only [logT, logD, noL, noLs, nod, Bool.and_self]
    have ok4 : RqOk x ⟨st.n + 1, st.cells, st.bufs, st.boxes, st.log ++ [logT (st.n + 1) p r]⟩ r := by
      cases r <;> exact ok
    refine ⟨_, rfl, x.m, x.dx, _, rfl, hM4.ins, rfl, _, rfl, _, rfl, x, _, p, t, r, rfl, hM4, ⟨tk.fr, tk.bx⟩, hp, hd4, ok4, fun H5 v f5 hM5 hv => ?_⟩
    unfold after at hM5
    rw [run_log] at hM5 hv
    refine ⟨_, rfl, x.m, _, x.dx, _, _, rfl, hM5.ins, T.c_Memory, T.n_Memory_count, rfl, (by show 2 ≤ sizeLine; decide), fun t6 h6 => ?_⟩
    have e6 := Same.new (o := .tup [v, .int ((st.n + 1 : Nat))]) h6
    exact q _ v t6 (((Fr.same hM e1).trans (Fr.keep hM1 kpA)).trans (f5.trans (Fr.same hM5 e6))) (hM5.same e6) upd_same (dp_mono e6 hv)

theorem ok_Owners_init (T : Txt w K mg a) : FnOk P w K mg base CX0 1 a.f_Owners_init a.d_Owners_init ["self", "many"] (spOwnInit a.C_Owners) := by
  refine T.F_Owners_init.ok sc_Owners_init (fun vs H Q E h => ?_) (fun cdv A outer s H vs Q E hr h => ?_)
  · obtain ⟨o, dx, many, rfl, _⟩ := h
    rfl
  · obtain ⟨o, dx, many, rfl, ho, few, q⟩ := h
    refine ⟨_, (pss_cons (ps_fld (pv 0) (pe_lc (own := [("_", 2)]) (g := gName 2) (tt := tYes) rfl sc_Owners_init.nd (pi_range1 rfl T.b_range (pa_cons (pv 1) pa_nil)) (blkOk_by (own := [("_", 2)]) (N := ["self", "many", "_"]) (sc := defScope s_Owners_init) (by decide +kernel)) (fun _ _ _ _ _ => (pg_name (i := 2) sc_Owners_init.nd rfl (Or.inl rfl))) (fun _ _ _ _ _ => pts_nil) (fun _ _ _ _ _ => (pe_lst pa_nil))) rfl)
    (pss_one (ps_fld (pv 0) (pe_lc (own := [("_", 2)]) (g := gName 2) (tt := tYes) rfl sc_Owners_init.nd (pi_range1 rfl T.b_range (pa_cons (pv 1) pa_nil)) (blkOk_by (own := [("_", 2)]) (N := ["self", "many", "_"]) (sc := defScope s_Owners_init) (by decide +kernel)) (fun _ _ _ _ _ => (pg_name (i := 2) sc_Owners_init.nd rfl (Or.inl rfl))) (fun _ _ _ _ _ => pts_nil) (fun _ _ _ _ _ => pe_bl)) rfl))), ?_⟩
    refine ⟨_, rfl, _, rfl, by omega, by omega, fun L hL => ?_⟩
    refine lc_range (lo := 0) (n := ((many : Nat) : Int).toNat) (fun i H' => ∃ G as, H' = upd G L (.lst (as.map V.ref)) ∧ Same H G ∧ G L = none ∧ as.Nodup ∧ as.length = i ∧ i ≤ many ∧ ∀ p ∈ as, G p = some (.lst []) ∧ H p = none)
      ⟨H, [], rfl, Same.refl H, hL, List.nodup_nil, rfl, Nat.zero_le _, fun _ h => absurd h List.not_mem_nil⟩ ?_ ?_
    · rintro i H' hi ⟨G, as, rfl, eS, gL, nd, el, ei, hp⟩
      have hi2 : i < many := by simpa using hi
      refine ⟨rfl, Nat.zero_le _, fun p np => ?_⟩
      obtain ⟨eC, gp, gL2⟩ := new_under (o := .lst []) gL np
      have npa : p ∉ as := fun z => by rw [(hp p z).1] at gp; cases gp
      refine ⟨_, by rw [eC]; exact upd_same, ?_, upd G p (.lst []), as ++ [p], ?_, eS.trans (Same.new gp), gL2, ?_, ?_, hi2, ?_⟩
      · rw [List.length_map, el]
        exact Nat.lt_of_lt_of_le (by omega : i < 101) (by decide)
      · rw [eC, upd_upd, List.map_append]
        rfl
      · exact List.nodup_append.mpr ⟨nd, by simp, fun x hx y hy => by rw [List.mem_singleton.mp hy]; exact fun z => npa (z ▸ hx)⟩
      · rw [List.length_append, List.length_singleton, el]
      · intro x hx
        rcases List.mem_append.mp hx with hx | hx
        · have nx : x ≠ p := fun z => npa (z ▸ hx)
          exact ⟨(upd_ne nx).trans (hp x hx).1, (hp x hx).2⟩
        · rw [List.mem_singleton.mp hx]
          exact ⟨upd_same, eS.free gp⟩
    · rintro H' ⟨G, as, rfl, eS, gL, nd, el, _, hp⟩
      have el2 : as.length = many := by simpa using el
      have eS1 := eS.trans (Same.new (o := .lst (as.map V.ref)) gL)
      have noL : o ≠ L := ne_of_none ho hL
      refine ⟨_, rfl, o, a.C_Owners, dx, _, rfl, eS1 _ _ ho, T.c_Owners, T.n_Owners__owners, (by show 0 < 1000; decide), ?_⟩
      have h1 : SameBut o H (upd (upd G L (.lst (as.map V.ref))) o (.ins a.C_Owners dx [("_owners", .ref L)])) := (Same.but eS1).own
      have hL1 : upd (upd G L (.lst (as.map V.ref))) o (.ins a.C_Owners dx [("_owners", .ref L)]) L = some (.lst (as.map V.ref)) := (upd_ne (Ne.symm noL)).trans upd_same
      have hP1 : ∀ p ∈ as, upd (upd G L (.lst (as.map V.ref))) o (.ins a.C_Owners dx [("_owners", .ref L)]) p = some (.lst []) := fun p hpp => by
        have n1 : p ≠ o := fun z => by rw [z] at hpp; rw [(hp o hpp).2] at ho; cases ho
        have n2 : p ≠ L := fun z => by rw [z] at hpp; rw [(hp L hpp).1] at gL; cases gL
        rw [upd_ne n1, upd_ne n2]
        exact (hp p hpp).1
      have nLa : L ∉ as := fun z => by rw [(hp L z).1] at gL; cases gL
      have ho1 : upd (upd G L (.lst (as.map V.ref))) o (.ins a.C_Owners dx [("_owners", .ref L)]) o = some (.ins a.C_Owners dx [("_owners", .ref L)]) := upd_same
      refine ⟨_, rfl, _, rfl, by omega, by omega, fun M hM => ?_⟩
      refine lc_range (lo := 0) (n := ((many : Nat) : Int).toNat) (fun i H' => i ≤ many ∧ H' = upd (upd (upd G L (.lst (as.map V.ref))) o (.ins a.C_Owners dx [("_owners", .ref L)])) M (.lst ((List.replicate i false).map V.bl)))
        ⟨Nat.zero_le _, rfl⟩ ?_ ?_
      · rintro i H' hi ⟨_, rfl⟩
        have hi2 : i < many := by simpa using hi
        refine ⟨rfl, _, upd_same, ?_, hi2, ?_⟩
        · rw [List.length_map, List.length_replicate]
          exact Nat.lt_of_lt_of_le (by omega : i < 101) (by decide)
        · rw [upd_upd, List.replicate_succ', List.map_append]
          rfl
      · rintro H' ⟨_, rfl⟩
        change upd (upd G L (.lst (as.map V.ref))) o (.ins a.C_Owners dx [("_owners", .ref L)]) M = none at hM
        have hM0 : H M = none := by
          cases e : H M with
          | none => rfl
          | some u =>
            have nM : M ≠ o := fun z => by rw [z, ho1] at hM; cases hM
            rw [h1 M u nM e] at hM
            cases hM
        have noM : o ≠ M := fun z => by rw [← z, ho1] at hM; cases hM
        have nLM : L ≠ M := fun z => by rw [← z, hL1] at hM; cases hM
        have naM : ∀ p ∈ as, p ≠ M := fun p hp z => by rw [← z, hP1 p hp] at hM; cases hM
        refine ⟨_, rfl, o, a.C_Owners, dx, _, rfl, (upd_ne noM).trans ho1, T.c_Owners, T.n_Owners__held, (by show 1 < 1000; decide), ?_⟩
        refine q _ L M as (h1.trans (Same.but (Same.new hM))).own hL hM0 (fun p hpp => (hp p hpp).2) ⟨upd_same, ?_, ⟨?_, ?_, ?_⟩, ?_, ?_, ?_, ?_, ?_⟩
        · rw [upd_ne (Ne.symm noL), upd_ne nLM]
          exact hL1
        · rw [List.length_replicate]
          exact el2
        · intro j p c h1 h2
          have hpp := mem_of_get h1
          have ec : c = [] := by
            have := mem_of_get h2
            exact List.eq_of_mem_replicate this
          have n1 : p ≠ o := fun z => by rw [z] at hpp; rw [(hp o hpp).2] at ho; cases ho
          rw [upd_ne n1, upd_ne (naM p hpp), ec]
          exact hP1 p hpp
        · intro c hc
          rw [List.eq_of_mem_replicate hc]
          exact fun _ h => absurd h List.not_mem_nil
        · rw [upd_ne (Ne.symm noM), upd_same]
          simp
        · simp
        · exact List.nodup_cons.mpr ⟨fun z => (List.mem_cons.mp z).elim nLM nLa, List.nodup_cons.mpr ⟨fun z => naM M z rfl, nd⟩⟩
        · rw [List.length_replicate]
          exact few
        · intro c hc
          rw [List.eq_of_mem_replicate hc]
          exact Nat.zero_le _
theorem ok_Hand_init (T : Txt w K mg a) : FnOk P w K mg base CX0 1 a.f_Hand_init a.d_Hand_init ["self", "many"] (spHandInit a.C_Hand) := by
  refine T.F_Hand_init.ok sc_Hand_init (fun vs H Q E h => ?_) (fun cdv A outer s H vs Q E hr h => ?_)
  · obtain ⟨o, dx, many, rfl, _⟩ := h
    rfl
  · obtain ⟨o, dx, many, rfl, ho, q⟩ := h
    refine ⟨_, (pss_cons (ps_fld (pv 0) (pv 1) rfl)
    (pss_one (ps_fld (pv 0) pe_int rfl))), ?_⟩
    have s0 : SameBut o H H := fun _ _ _ h => h
    refine ⟨_, rfl, _, rfl, o, a.C_Hand, dx, _, rfl, ho, T.c_Hand, T.n_Hand__many, (by show 0 < 1000; decide), ?_⟩
    have s1 := s0.own (o := .ins a.C_Hand dx [("_many", .int (many : Nat))])
    refine ⟨_, rfl, o, a.C_Hand, dx, _, rfl, upd_same, T.c_Hand, T.n_Hand__frame, (by show 1 < 1000; decide), ?_⟩
    exact q _ s1.own ⟨upd_same⟩

theorem ok_Kernel_init (T : Txt w K mg a) : FnOk P w K mg base CX0 3 a.f_Kernel_init a.d_Kernel_init ["self", "memory"] (spKer8 K ⟨a.C_Memory, a.C_Sizes, a.C_Buffer, a.C_Box⟩ a.C_Kernel) := by
  refine T.F_Kernel_init.ok sc_Kernel_init (fun vs H Q E h => ?_) (fun cdv A outer s H vs Q E hr h => ?_)
  · obtain ⟨k, dx, x, s, rfl, _⟩ := h
    rfl
  · obtain ⟨k, dx, x, s, rfl, hk, hM, q⟩ := h
    refine ⟨_, (pss_cons (ps_fld (pv 0) (pv 1) rfl)
    (pss_cons (ps_fld (pv 0) (pe_fld (pv 1) rfl) rfl)
    (pss_cons (ps_fld (pv 0) (pe_disp (pps_cons pe_int (pe_lst pa_nil) pps_nil) (by rfl) (by rfl) (fun z => by cases z) (by decide)) rfl)
    (pss_cons (ps_fld (pv 0) (pe_make T.mk_Owners (ok_Owners_init T) (hr.mono (by decide)) rfl T.m_Owners T.B_Owners_init .nil pass0 (pa_cons (pe_fld (pe_fld (pv 1) rfl) rfl) pa_nil)) rfl)
    (pss_cons (ps_fld (pv 0) (pe_make T.mk_Owners (ok_Owners_init T) (hr.mono (by decide)) rfl T.m_Owners T.B_Owners_init .nil pass0 (pa_cons (pe_fld (pe_fld (pv 1) rfl) rfl) pa_nil)) rfl)
    (pss_cons (ps_fld (pv 0) (pe_make T.mk_Hand (ok_Hand_init T) (hr.mono (by decide)) rfl T.m_Hand T.B_Hand_init .nil pass0 (pa_cons (pe_fld (pe_fld (pv 1) rfl) rfl) pa_nil)) rfl)
    (pss_one (ps_fld (pv 0) pe_int rfl)))))))), ?_⟩
    have kx : ∀ {c D e : Addr} {nm : Str} {v : V} {fs : List (Str × V)}, H c = some (.ins D e ((nm, v) :: fs)) → c ≠ k := fun h e => by
      rw [e, hk] at h
      injection h with h
      injection h with _ _ h
      cases h
    refine ⟨_, rfl, _, rfl, k, a.C_Kernel, dx, _, rfl, hk, T.c_Kernel, T.n_Kernel_memory, (by show 0 < 1000; decide), ?_⟩
    refine ⟨_, rfl, x.m, _, x.dx, _, _, rfl, (upd_ne (kx hM.ins)).trans hM.ins, T.c_Memory, T.n_Memory_sizes, rfl, _, rfl, k, a.C_Kernel, dx, _, rfl, upd_same, T.c_Kernel, T.n_Kernel_sizes, (by show 1 < 1000; decide), ?_⟩
    obtain ⟨H2, e2⟩ : ∃ H2, H2 = upd (upd H k (.ins a.C_Kernel dx [("memory", .ref x.m)])) k (.ins a.C_Kernel dx [("memory", .ref x.m), ("sizes", .ref x.z)]) := ⟨_, rfl⟩
    change tSeq _ _ _ _ (upd (upd H k (.ins a.C_Kernel dx [("memory", .ref x.m)])) k (.ins a.C_Kernel dx [("memory", .ref x.m), ("sizes", .ref x.z)]))
    rw [← e2]
    have hk2 : H2 k = some (.ins a.C_Kernel dx [("memory", .ref x.m), ("sizes", .ref x.z)]) := by rw [e2]; exact upd_same
    have sb2 : SameBut k H H2 := by
      rw [e2]
      exact fun c o n h => (upd_ne n).trans ((upd_ne n).trans h)
    clear e2
    have m2 := sb2 _ _ (kx hM.ins) hM.ins
    have z2 := sb2 _ _ (kx hM.sz) hM.sz
    have nm := kx hM.ins
    have nz := kx hM.sz
    obtain ⟨⟨p0, p1⟩, ⟨f0, f1⟩, ⟨b0, b1⟩⟩ := okSz_at hM.okS
    obtain ⟨nf, ef⟩ : ∃ n : Nat, x.f = (n : Int) := ⟨x.f.toNat, by omega⟩
    obtain ⟨nb, eb⟩ : ∃ n : Nat, x.b = (n : Int) := ⟨x.b.toNat, by omega⟩
    refine fun d hd => ⟨Nat.zero_le _, fun l hl => ?_⟩
    have ndk : k ≠ d := ne_of_none hk2 hd
    have nlk : k ≠ l := ne_of_none ((upd_ne ndk).trans hk2) hl
    have ndl : d ≠ l := fun e => by
      rw [← e, upd_same] at hl
      cases hl
    refine ⟨(upd_ne ndl).trans upd_same, [(.inl 0, .ref l)], rfl, by show 1 ≤ 15; decide, _, rfl, k, a.C_Kernel, dx, _, rfl, (upd_ne ndk).trans ((upd_ne nlk).trans ((upd_ne ndk).trans hk2)), T.c_Kernel, T.n_Kernel_spaces, (by show 2 < 1000; decide), ?_⟩
    obtain ⟨H3, e3⟩ : ∃ H3, H3 = upd (upd (upd (upd H2 d (.dK [])) l (.lst [])) d (.dK (mergeK [] [(.inl 0, .ref l)]))) k (.ins a.C_Kernel dx [("memory", .ref x.m), ("sizes", .ref x.z), ("spaces", .ref d)]) := ⟨_, rfl⟩
    change tSeq _ _ _ _ (upd (upd (upd (upd H2 d (.dK [])) l (.lst [])) d (.dK (mergeK [] [(.inl 0, .ref l)]))) k (.ins a.C_Kernel dx [("memory", .ref x.m), ("sizes", .ref x.z), ("spaces", .ref d)]))
    rw [← e3]
    have hk3 : H3 k = some (.ins a.C_Kernel dx [("memory", .ref x.m), ("sizes", .ref x.z), ("spaces", .ref d)]) := by rw [e3]; exact upd_same
    have sb3 : SameBut k H2 H3 := by
      rw [e3]
      intro c o n h
      have c1 : c ≠ d := ne_of_none h hd
      have c2 : c ≠ l := ne_of_none ((upd_ne c1).trans h) hl
      exact (upd_ne n).trans ((upd_ne c1).trans ((upd_ne c2).trans ((upd_ne c1).trans h)))
    clear e3
    have m3 := sb3 _ _ nm m2
    have z3 := sb3 _ _ nz z2
    refine ⟨_, rfl, x.m, _, x.dx, _, _, rfl, m3, T.c_Memory, T.n_Memory_sizes, rfl, x.z, _, x.dz, _, _, rfl, z3, T.c_Sizes, T.n_Sizes_frames, rfl, fun o dxo no ndo nod => ⟨o, dxo, nf, by rw [← ef]; rfl, upd_same, by omega, fun H4 L M as sb4 _ _ _ _ => ⟨rfl, ?_⟩⟩⟩
    have pass4 : ∀ {c : Addr} {u : HO}, H3 c = some u → H4 c = some u := fun h => sb4 _ _ (ne_of_none h no) ((upd_ne (ne_of_none h no)).trans ((upd_ne (ne_of_none h ndo)).trans h))
    refine ⟨_, rfl, k, a.C_Kernel, dx, _, rfl, pass4 hk3, T.c_Kernel, T.n_Kernel_frames, (by show 3 < 1000; decide), ?_⟩
    have m4 := pass4 m3
    have z4 := pass4 z3
    refine ⟨_, rfl, x.m, _, x.dx, _, _, rfl, (upd_ne nm).trans m4, T.c_Memory, T.n_Memory_sizes, rfl, x.z, _, x.dz, _, _, rfl, (upd_ne nz).trans z4, T.c_Sizes, T.n_Sizes_blocks, rfl, fun o2 dxo2 no2 ndo2 nod2 => ⟨o2, dxo2, nb, by rw [← eb]; rfl, upd_same, by omega, fun H5 L2 M2 as2 sb5 _ _ _ _ => ⟨rfl, ?_⟩⟩⟩
    have pass5 : ∀ {c : Addr} {u : HO}, (upd H4 k (.ins a.C_Kernel dx [("memory", .ref x.m), ("sizes", .ref x.z), ("spaces", .ref d), ("frames", .ref o)])) c = some u → H5 c = some u := fun h => sb5 _ _ (ne_of_none h no2) ((upd_ne (ne_of_none h no2)).trans ((upd_ne (ne_of_none h ndo2)).trans h))
    refine ⟨_, rfl, k, a.C_Kernel, dx, _, rfl, pass5 upd_same, T.c_Kernel, T.n_Kernel_blocks, (by show 4 < 1000; decide), ?_⟩
    have m5 := pass5 ((upd_ne nm).trans m4)
    have z5 := pass5 ((upd_ne nz).trans z4)
    refine ⟨_, rfl, x.m, _, x.dx, _, _, rfl, (upd_ne nm).trans m5, T.c_Memory, T.n_Memory_sizes, rfl, x.z, _, x.dz, _, _, rfl, (upd_ne nz).trans z5, T.c_Sizes, T.n_Sizes_frames, rfl, fun o3 dxo3 no3 ndo3 nod3 => ⟨o3, dxo3, nf, by rw [← ef]; rfl, upd_same, fun H6 sb6 _ => ⟨rfl, ?_⟩⟩⟩
    have pass6 : ∀ {c : Addr} {u : HO}, (upd H5 k (.ins a.C_Kernel dx [("memory", .ref x.m), ("sizes", .ref x.z), ("spaces", .ref d), ("frames", .ref o), ("blocks", .ref o2)])) c = some u → H6 c = some u := fun h => sb6 _ _ (ne_of_none h no3) ((upd_ne (ne_of_none h no3)).trans ((upd_ne (ne_of_none h ndo3)).trans h))
    refine ⟨_, rfl, k, a.C_Kernel, dx, _, rfl, pass6 upd_same, T.c_Kernel, T.n_Kernel_hand, (by show 5 < 1000; decide), ?_⟩
    refine ⟨_, rfl, k, a.C_Kernel, dx, _, rfl, upd_same, T.c_Kernel, T.n_Kernel_ticket, (by show 6 < 1000; decide), ?_⟩
    refine q _ d o o2 o3 (fun c u n h => ?_) upd_same
    have h4 := pass4 (sb3 _ _ n (sb2 _ _ n h))
    have h6 := pass6 ((upd_ne n).trans (pass5 ((upd_ne n).trans h4)))
    exact (upd_ne n).trans ((upd_ne n).trans h6)

theorem InvAt.put {K : PySem.W.Frag} {C : Addr} {H : Hp} {z : Addr} {y : Iv.Iv} {lv : V} {s s' : IvS} (h : InvAt K C H z y lv s) (em : s'.m = s.m) (el : s'.l = s.l) : InvAt K C (upd H y.q (.ins C y.dx (ivF z y.os lv s'))) z y lv s' :=
  ⟨upd_same, (upd_ne (ne_of h.os h.ins (fun z => nomatch z))).trans (by rw [em]; exact h.os), by rw [el]; exact h.lt.kt (KT.ins h.ins), by rw [em]; exact h.few, by rw [em, el]; exact h.has⟩
theorem ok_Kernel_next_ticket (T : Txt w K mg a) : FnOk P w K mg base CX0 1 a.f_Kernel_next_ticket a.d_Kernel_next_ticket ["self"] (spTicket a.C_Kernel) := by
  refine T.F_Kernel_next_ticket.ok sc_Kernel_next_ticket (fun vs H Q E h => ?_) (fun cdv A outer s H vs Q E hr h => ?_)
  · obtain ⟨k, dk, d, o, o2, o3, x, t, rfl, _⟩ := h
    rfl
  · obtain ⟨k, dk, d, o, o2, o3, x, t, rfl, hk, q⟩ := h
    refine ⟨_, (pss_cons (ps_fldaug (pv 0) pe_int in_add)
    (pss_one (ps_ret (pe_fld (pv 0) rfl)))), ?_⟩
    refine ⟨_, rfl, k, a.C_Kernel, dk, _, _, rfl, hk, T.c_Kernel, T.n_Kernel_ticket, rfl, _, _, rfl, rfl, dk, _, hk, (by show 7 < 1000; decide), ?_⟩
    rw [ker_put]
    have e : ((t : Nat) : Int) + 1 = ((t + 1 : Nat) : Int) := by omega
    rw [e] at q
    exact ⟨_, rfl, k, a.C_Kernel, dk, _, _, rfl, upd_same, T.c_Kernel, T.n_Kernel_ticket, rfl, q⟩
theorem ok_Invalidating_request (T : Txt w K mg a) : FnOk P w K mg base CX0 2 a.f_Invalidating_request a.d_Invalidating_request ["self"] (spIvReq K a.C_Invalidating a.C_Sizes) := by
  refine T.F_Invalidating_request.ok sc_Invalidating_request (fun vs H Q E h => ?_) (fun cdv A outer s H vs Q E hr h => ?_)
  · obtain ⟨z, dz, p, f, b, y, lv, s, rfl, _⟩ := h
    rfl
  · obtain ⟨z, dz, p, f, b, y, lv, v, rfl, hz, hI, q1, q2⟩ := h
    refine ⟨_, (pss_cons (ps_if (pt_cmpR (op_lt) (pe_fld (pv 0) rfl) (pe_callB call_len_seq (by rfl) T.b_len (by decide +kernel) (pa_cons (pe_fld (pv 0) rfl) pa_nil)) (nomark _)) (pss_one (ps_ret (pe_tup (pa_cons pe_str (pa_cons (pe_ix ix_list (pe_fld (pv 0) rfl) (pe_fld (pv 0) rfl) (fun _ _ => rfl)) (pa_cons (pe_fld (pv 0) rfl) pa_nil)))))) pss_nil)
    (pss_cons (ps_if (pt_cmpR (op_lt) (pe_fld (pv 0) rfl) (pe_callB call_len_seq (by rfl) T.b_len (by decide +kernel) (pa_cons (pe_fld (pv 0) rfl) pa_nil)) (nomark _)) (pss_one (ps_ret (pe_tup (pa_cons pe_str (pa_cons (pe_meth (pe_fld (pv 0) rfl) T.c_Sizes T.M_Sizes_acknowledge (ok_Sizes_acknowledge T) (hr.mono (by decide)) T.B_Sizes_acknowledge .nil pass0 (pa_cons (pe_ix ix_list (pe_fld (pv 0) rfl) (pe_fld (pv 0) rfl) (fun _ _ => rfl)) pa_nil)) pa_nil))))) pss_nil)
    (pss_one (ps_ret (pe_tup (pa_cons pe_str (pa_cons (pe_fld (pv 0) rfl) pa_nil))))))), ?_⟩
    refine ⟨_, rfl, y.q, _, y.dx, _, _, rfl, hI.ins, T.c_Invalidating, T.n_Invalidating__sent, rfl, _, rfl, y.q, _, y.dx, _, _, rfl, hI.ins, T.c_Invalidating, T.n_Invalidating__others, rfl, y.os, _, rfl, .inl (SqL.of hI.os), _, _, rfl, rfl, _, rfl, ite2 (fun c => ?_) (fun c => ?_)⟩
    · have hs : v.sent < v.m.length := by
        have := of_decide_eq_true c
        rw [List.length_map] at this
        omega
      have em := List.getElem?_eq_getElem hs
      obtain ⟨l, el⟩ := hI.has (fun e => by rw [e] at hs; exact Nat.not_lt_zero _ hs)
      have hl := hI.lt
      rw [el] at hl
      refine ⟨_, rfl, y.q, _, y.dx, _, _, rfl, hI.ins, T.c_Invalidating, T.n_Invalidating__others, rfl, _, rfl, y.q, _, y.dx, _, _, rfl, hI.ins, T.c_Invalidating, T.n_Invalidating__sent, rfl, y.os, _, _, _, rfl, rfl, SqL.of hI.os, at_nat (by rw [List.getElem?_map, em]; rfl), _, rfl, y.q, _, y.dx, _, _, rfl, hI.ins, T.c_Invalidating, T.n_Invalidating__letter, rfl, (by show 3 ≤ sizeLine; decide), fun t ht => ?_⟩
      have e := Same.new (o := .tup [.str "send", .int ((v.m[v.sent] : Nat) : Int), lv]) ht
      refine q1 (.send v.m[v.sent] l) (by unfold ivR; rw [em, el]) _ t e (.tup (SqT.of upd_same) (.cons (.str _) (.cons (.int _) (.cons (dp_mono e hl.dp) .nil))))
    · have hs : ¬ v.sent < v.m.length := fun h => c (decide_eq_true (by rw [List.length_map]; omega))
      have em : v.m[v.sent]? = none := List.getElem?_eq_none (by omega)
      refine ⟨_, rfl, y.q, _, y.dx, _, _, rfl, hI.ins, T.c_Invalidating, T.n_Invalidating__answered, rfl, _, rfl, y.q, _, y.dx, _, _, rfl, hI.ins, T.c_Invalidating, T.n_Invalidating__others, rfl, y.os, _, rfl, .inl (SqL.of hI.os), _, _, rfl, rfl, _, rfl, ite2 (fun c2 => ?_) (fun c2 => ?_)⟩
      · have ha : v.ans < v.m.length := by
          have := of_decide_eq_true c2
          rw [List.length_map] at this
          omega
        have ea := List.getElem?_eq_getElem ha
        refine ⟨_, rfl, y.q, _, y.dx, _, _, rfl, hI.ins, T.c_Invalidating, T.n_Invalidating__sizes, rfl, z, dz, _, rfl, hz, rfl, _, rfl, y.q, _, y.dx, _, _, rfl, hI.ins, T.c_Invalidating, T.n_Invalidating__others, rfl, _, rfl, y.q, _, y.dx, _, _, rfl, hI.ins, T.c_Invalidating, T.n_Invalidating__answered, rfl, y.os, _, _, _, rfl, rfl, SqL.of hI.os, at_nat (by rw [List.getElem?_map, ea]; rfl), z, dz, p, f, b, _, rfl, hz, (by show 2 ≤ sizeLine; decide), fun t ht => ?_⟩
        refine q1 (.read (1 + ((v.m[v.ans] : Nat) : Int))) ?_ _ t (Same.new ht) (.tup (SqT.of upd_same) (.cons (.str _) (.cons (.int _) .nil)))
        unfold ivR
        rw [em, ea]
        rfl
      · have ha : ¬ v.ans < v.m.length := fun h => c2 (decide_eq_true (by rw [List.length_map]; omega))
        have ea : v.m[v.ans]? = none := List.getElem?_eq_none (by omega)
        refine ⟨_, rfl, y.q, _, y.dx, _, _, rfl, hI.ins, T.c_Invalidating, T.n_Invalidating__number, rfl, (by show 2 ≤ sizeLine; decide), fun t ht => q2 ?_ t ht⟩
        unfold ivR
        rw [em, ea]
        rfl
theorem ok_Invalidating_accept (T : Txt w K mg a) : FnOk P w K mg base CX0 1 a.f_Invalidating_accept a.d_Invalidating_accept ["self", "result"] (spIvAcc K a.C_Invalidating) := by
  refine T.F_Invalidating_accept.ok sc_Invalidating_accept (fun vs H Q E h => ?_) (fun cdv A outer s H vs Q E hr h => ?_)
  · obtain ⟨z, y, lv, s, t, v, d, n, rfl, _⟩ := h
    rfl
  · obtain ⟨z, y, lv, v, t, u, d, n, rfl, hI, ⟨r, hr0⟩, ht, hd, nd, sd, q⟩ := h
    refine ⟨_, (pss_cons (ps_asg (pv 1) (pg_tup rfl (pgs_cons (pg_name (i := 2) sc_Invalidating_accept.nd rfl (Or.inl rfl)) (pgs_cons (pg_name (i := 3) sc_Invalidating_accept.nd rfl (Or.inl rfl)) pgs_nil))))
    (pss_cons (ps_fld (pv 0) (pv 3) rfl)
    (pss_one (ps_if (pt_cmpR (op_lt) (pe_fld (pv 0) rfl) (pe_callB call_len_seq (by rfl) T.b_len (by decide +kernel) (pa_cons (pe_fld (pv 0) rfl) pa_nil)) (nomark _)) (pss_one (ps_fldaug (pv 0) pe_int in_add)) (pss_one (ps_if (pt_cmpR (op_eqD hr.units) (pv 2) (pe_ix ix_tup (pe_fld (pv 0) rfl) pe_int (fun _ _ => rfl)) (nomark _)) (pss_one (ps_fldaug (pv 0) pe_int in_add)) pss_nil)))))), ?_⟩
    refine ⟨_, rfl, t, _, rfl, SqT.of ht, rfl, _, _, rfl, _, _, rfl, rfl, ?_⟩
    refine ⟨_, rfl, _, rfl, y.q, a.C_Invalidating, y.dx, _, rfl, hI.ins, T.c_Invalidating, T.n_Invalidating__number, (by show 6 < 1000; decide), ?_⟩
    rw [iv_num]
    have hI1 := InvAt.put (s' := ⟨v.m, v.sent, v.ans, some n, v.l⟩) hI rfl rfl
    refine ⟨_, rfl, y.q, _, y.dx, _, _, rfl, hI1.ins, T.c_Invalidating, T.n_Invalidating__sent, rfl, _, rfl, y.q, _, y.dx, _, _, rfl, hI1.ins, T.c_Invalidating, T.n_Invalidating__others, rfl, y.os, _, rfl, .inl (SqL.of hI1.os), _, _, rfl, rfl, _, rfl, ite2 (fun c => ?_) (fun c => ?_)⟩
    · have hs : v.sent < v.m.length := by
        have h := of_decide_eq_true c
        rw [List.length_map] at h
        have h2 : (v.sent : Int) < (v.m.length : Int) := h
        omega
      refine ⟨_, rfl, y.q, a.C_Invalidating, y.dx, _, _, rfl, hI1.ins, T.c_Invalidating, T.n_Invalidating__sent, rfl, _, _, rfl, rfl, y.dx, _, hI1.ins, (by show 6 < 1000; decide), ?_⟩
      rw [iv_sent, upd_upd]
      have e : ivA v d n = ⟨v.m, v.sent + 1, v.ans, some n, v.l⟩ := by
        unfold ivA
        rw [if_pos hs]
      have hI2 := InvAt.put (s' := ivA v d n) hI (by rw [e]) (by rw [e])
      have := q _ hI2
      rw [e] at this
      exact this
    · have hs : ¬ v.sent < v.m.length := fun h => c (decide_eq_true (by rw [List.length_map]; show (v.sent : Int) < (v.m.length : Int); omega))
      have hne : v.m ≠ [] := fun e => by
        unfold ivR at hr0
        rw [e] at hr0
        simp at hr0
      obtain ⟨l, el⟩ := hI.has hne
      have hl := hI1.lt
      rw [show (IvS.mk v.m v.sent v.ans (some n) v.l).l = some l from el] at hl
      obtain ⟨lt, vp, rfl, hlt, _⟩ := hl
      refine ⟨_, rfl, _, rfl, y.q, _, y.dx, _, _, rfl, hI1.ins, T.c_Invalidating, T.n_Invalidating__letter, rfl, lt, _, _, _, rfl, rfl, SqT.of hlt, at_of (j := 0) rfl rfl, d, .int l.t, ?_, .int _, sd, (sh_int _).ok, _, rfl, ?_⟩
      · exact dp_keep (KT.ins hI.ins) nd hd
      cases e : PyData.eqv d (.int l.t) with
      | true =>
        refine iteT ⟨_, rfl, y.q, a.C_Invalidating, y.dx, _, _, rfl, hI1.ins, T.c_Invalidating, T.n_Invalidating__answered, rfl, _, _, rfl, rfl, y.dx, _, hI1.ins, (by show 6 < 1000; decide), ?_⟩
        rw [iv_ans, upd_upd]
        have e2 : ivA v d n = ⟨v.m, v.sent, v.ans + 1, some n, v.l⟩ := by
          unfold ivA
          rw [if_neg hs, el]
          exact if_pos e
        have hI2 := InvAt.put (s' := ivA v d n) hI (by rw [e2]) (by rw [e2])
        have := q _ hI2
        rw [e2] at this
        exact this
      | false =>
        have e2 : ivA v d n = ⟨v.m, v.sent, v.ans, some n, v.l⟩ := by
          unfold ivA
          rw [if_neg hs, el]
          exact if_neg (by show ¬ PyData.eqv d (.int l.t) = true; rw [e]; simp)
        have hI2 := InvAt.put (s' := ivA v d n) hI (by rw [e2]) (by rw [e2])
        have := q _ hI2
        rw [e2] at this
        exact iteF this

theorem ok_asks_for (T : Txt w K mg a) : FnOk P w K mg base CX0 2 a.f_asks_for a.d_asks_for ["request", "name"] (spAsks K) := by
  refine T.F_asks_for.ok sc_asks_for (fun vs H Q E h => ?_) (fun cdv A outer s H vs Q E hr h => ?_)
  · obtain ⟨t, ds, nm, rfl, _⟩ := h
    rfl
  · obtain ⟨t, ds, nm, rfl, hd, g⟩ := h
    refine ⟨_, (pss_one (ps_ret (pe_and (pe_call (ok_is_tuple_of T) (hr.mono (by decide)) rfl T.m_is_tuple_of T.F_is_tuple_of.kp T.B_is_tuple_of .nil pass0 (pa_cons (pv 0) (pa_cons pe_int pa_nil))) (pe_one (pe_cmpR (op_eq) (pe_ix ix_tup (pv 0) pe_int (fun _ _ => rfl)) (pv 1) (nomark _)))))), ?_⟩
    refine ⟨_, rfl, _, _, 2, rfl, hd, _, rfl, ?_⟩
    rcases g with ⟨ne, g⟩ | ⟨z, v, d, rfl, hT, g⟩
    · have e : tupD (.tuple ds) 2 = false := by
        simp only [tupD, decide_eq_false_iff_not]
        omega
      rw [e]
      exact iteF g
    · exact iteT ⟨_, rfl, _, _, _, _, rfl, rfl, hT, at_of (j := 0) rfl rfl, _, rfl, rfl, g⟩
theorem ok_Stack_init (T : Txt w K mg a) : FnOk P w K mg base CX0 1 a.f_Stack_init a.d_Stack_init ["self", "machine"] (spStkInit ⟨a.C_Kernel, a.C_Stack, a.C_Invalidating, a.C_Invalidating⟩) := by
  refine T.F_Stack_init.ok sc_Stack_init (fun vs H Q E h => ?_) (fun cdv A outer s H vs Q E hr h => ?_)
  · obtain ⟨q, dx, v, rfl, _⟩ := h
    rfl
  · obtain ⟨q, dx, v, rfl, hq, g⟩ := h
    refine ⟨_, (pss_cons (ps_fld (pv 0) (pe_lst (pa_cons (pv 1) pa_nil)) rfl)
    (pss_one (ps_fld (pv 0) pe_non rfl))), ?_⟩
    refine ⟨_, rfl, (by show 1 ≤ sizeLine; decide), fun l hl => ?_⟩
    have nl : q ≠ l := ne_of_none hq hl
    refine ⟨_, rfl, q, a.C_Stack, dx, _, rfl, (upd_ne nl).trans hq, T.c_Stack, T.n_Stack__machines, (by show 0 < 1000; decide), ?_⟩
    refine ⟨_, rfl, q, a.C_Stack, dx, _, rfl, upd_same, T.c_Stack, T.n_Stack__value, (by show 1 < 1000; decide), ?_⟩
    exact g _ l (fun c o n h => (upd_ne n).trans ((upd_ne n).trans ((upd_ne (ne_of_none h hl)).trans h))) hl nl.symm upd_same ((upd_ne nl.symm).trans ((upd_ne nl.symm).trans upd_same))
theorem ok_Stack_ended (T : Txt w K mg a) : FnOk P w K mg base CX0 1 a.f_Stack_ended a.d_Stack_ended ["self"] (spEnded ⟨a.C_Kernel, a.C_Stack, a.C_Invalidating, a.C_Invalidating⟩) := by
  refine T.F_Stack_ended.ok sc_Stack_ended (fun vs H Q E h => ?_) (fun cdv A outer s H vs Q E hr h => ?_)
  · obtain ⟨y, ms, v, rfl, _⟩ := h
    rfl
  · obtain ⟨y, ms, v, rfl, hS, g⟩ := h
    refine ⟨_, (pss_one (ps_ret (pe_cmpR (op_eq) (pe_callB call_len_seq (by rfl) T.b_len (by decide +kernel) (pa_cons (pe_fld (pv 0) rfl) pa_nil)) pe_int (nomark _)))), ?_⟩
    rcases g with ⟨rfl, g⟩ | ⟨u, rfl, g⟩
    · exact ⟨_, rfl, y.q, a.C_Stack, y.dx, _, _, rfl, hS.ins, T.c_Stack, T.n_Stack__machines, rfl, y.l, _, rfl, .inl (SqL.of hS.lst), rfl, g⟩
    · exact ⟨_, rfl, y.q, a.C_Stack, y.dx, _, _, rfl, hS.ins, T.c_Stack, T.n_Stack__machines, rfl, y.l, _, rfl, .inl (SqL.of hS.lst), rfl, g⟩
theorem ok_Stack_value (T : Txt w K mg a) : FnOk P w K mg base CX0 1 a.f_Stack_value a.d_Stack_value ["self"] (spStkVal ⟨a.C_Kernel, a.C_Stack, a.C_Invalidating, a.C_Invalidating⟩) := by
  refine T.F_Stack_value.ok sc_Stack_value (fun vs H Q E h => ?_) (fun cdv A outer s H vs Q E hr h => ?_)
  · obtain ⟨y, ms, v, rfl, _⟩ := h
    rfl
  · obtain ⟨y, ms, v, rfl, hS, g⟩ := h
    refine ⟨_, (pss_one (ps_ret (pe_fld (pv 0) rfl))), ?_⟩
    exact ⟨_, rfl, y.q, a.C_Stack, y.dx, _, _, rfl, hS.ins, T.c_Stack, T.n_Stack__value, rfl, g⟩
theorem ok_Stack__end (T : Txt w K mg a) : FnOk P w K mg base CX0 2 a.f_Stack__end a.d_Stack__end ["self", "value"] (spEnd ⟨a.C_Kernel, a.C_Stack, a.C_Invalidating, a.C_Invalidating⟩) := by
  refine T.F_Stack__end.ok sc_Stack__end (fun vs H Q E h => ?_) (fun cdv A outer s H vs Q E hr h => ?_)
  · obtain ⟨y, u, v, n, rfl, _⟩ := h
    rfl
  · obtain ⟨y, u, v, n, rfl, hS, g⟩ := h
    refine ⟨_, (pss_cons (ps_expr (pe_bm0 PySem.F.plainAttrs_list PySem.F.slot_list_pop PySem.F.type_list_pop mt_pop (pe_fld (pv 0) rfl)))
    (pss_one (ps_if (pt_val (pe_meth0 (pv 0) T.c_Stack T.M_Stack_ended (ok_Stack_ended T) (hr.mono (by decide)) T.B_Stack_ended .nil pass0)) (pss_one (ps_fld (pv 0) (pv 1) rfl)) (pss_one (ps_expr (pe_meth (pe_ix ix_list (pe_fld (pv 0) rfl) (pe_un un_neg pe_int) (fun _ _ => rfl)) T.c_Invalidating T.M_Invalidating_accept (ok_Invalidating_accept T) (hr.mono (by decide)) T.B_Invalidating_accept .nil pass0 (pa_cons (pv 1) pa_nil))))))), ?_⟩
    have nq : y.q ≠ y.l := ne_of hS.ins hS.lst (fun z => nomatch z)
    refine ⟨_, rfl, y.q, a.C_Stack, y.dx, _, _, rfl, hS.ins, T.c_Stack, T.n_Stack__machines, rfl, .inl ⟨rfl, _, SqL.of hS.lst⟩, y.l, _, _, rfl, rfl, hS.lst, rfl, ?_⟩
    have hS2 : StkAt ⟨a.C_Kernel, a.C_Stack, a.C_Invalidating, a.C_Invalidating⟩ (upd H y.l (.lst [])) y [] v := ⟨(upd_ne nq).trans hS.ins, upd_same⟩
    exact ⟨_, rfl, y.q, y.dx, _, rfl, hS2.ins, rfl, y, [], v, rfl, hS2, .inl ⟨rfl, _, rfl, iteT ⟨_, rfl, _, rfl, y.q, a.C_Stack, y.dx, _, rfl, hS2.ins, T.c_Stack, T.n_Stack__value, (by show 2 < 1000; decide), g⟩⟩⟩

theorem others_len (n : Nat) (h : n ≤ 3) : ((List.range n).filter (fun n => decide (n ≠ 0))).length ≤ 10 := Nat.le_trans (List.length_filter_le _ _) (by rw [List.length_range]; omega)
theorem noLs_pairs (ps : List (Int × Int)) : noLs (ps.map pD) = true := noLs_of fun d hd => by
  obtain ⟨q, _, rfl⟩ := List.mem_map.mp hd
  simp only [pD, noL, noLs, Bool.and_self]
/-- an instance without fields gets some: the memory stands -/
theorem mem_beside {K : PySem.W.Frag} {C : Cl4} {H H' : Hp} {x : MX} {s : MS} {q D e : Addr} (h : MemAt K C H x s) (hq : H q = some (.ins D e [])) (sb : SameBut q H H') : MemAt K C H' x s := by
  have kt : KT H H' := sb.kt hq
  have nl : ∀ {y : Addr} {xs : List V}, H y = some (.lst xs) → H' y = some (.lst xs) := fun hy => sb _ _ (ne_of hy hq (fun z => nomatch z)) hy
  have ni : ∀ {y E g : Addr} {m : Str} {w : V} {gs : List (Str × V)}, H y = some (.ins E g ((m, w) :: gs)) → H' y = some (.ins E g ((m, w) :: gs)) := fun hy => sb _ _ (fun z => by
    rw [z, hq] at hy
    injection hy with hy
    injection hy with _ _ hy
    cases hy) hy
  exact {
    ins := ni h.ins
    sz := ni h.sz
    okS := h.okS
    bl := nl h.bl
    xl := nl h.xl
    cells := by
      obtain ⟨v, h1, h2⟩ := h.cells
      exact ⟨v, nl h1, dpAll_keep kt h.shC.no h2⟩
    log := by
      obtain ⟨v, h1, h2⟩ := h.log
      exact ⟨v, nl h1, dpAll_keep kt h.shL.no h2⟩
    buf := fun i y es h1 h2 => by
      obtain ⟨l, zs, h3, h4, h5, h6⟩ := h.buf i y es h1 h2
      exact ⟨l, zs, ⟨ni h3.ins, nl h3.lst⟩, h4.kt kt, h5, h6⟩
    box := fun i y ls h1 h2 => by
      obtain ⟨v, h3, h4⟩ := h.box i y ls h1 h2
      exact ⟨v, ⟨ni h3.ins, nl h3.lst⟩, dpAll_keep kt (h.shX ls (mem_of_get h2)).no h4⟩
    lenC := h.lenC
    lenB := h.lenB
    lenX := h.lenX
    lenL := h.lenL
    shC := h.shC
    shL := h.shL
    shX := h.shX
    lim := h.lim
    ndL := h.ndL
    ndB := h.ndB
    ndI := h.ndI }
theorem off_beside {K : PySem.W.Frag} {C : Cl4} {H H' : Hp} {x : MX} {s : MS} {q D e c : Addr} (h : MemAt K C H x s) (hq : H q = some (.ins D e [])) (sb : SameBut q H H') (o : Off H x c) : Off H' x c := o.mv h fun y hy u hu => sb _ _ (fun z => by
  obtain ⟨l2, _, h1⟩ := buf_of h hy
  have h2 := h1.ins
  rw [z, hq] at h2
  injection h2 with h2
  injection h2 with _ _ h2
  cases h2) hu
theorem fr_putI {K : PySem.W.Frag} {C : Cl4} {H : Hp} {x : MX} {s : MS} {q D e : Addr} {nm : Str} {v : V} {fs : List (Str × V)} {u : HO} (h : MemAt K C H x s) (hq : H q = some (.ins D e ((nm, v) :: fs)))
    (hn : nm ≠ "sizes" ∧ nm ≠ "processors" ∧ nm ≠ "_entries" ∧ nm ≠ "_letters") : ∀ c w, H c = some w → Free H x c w → c ≠ q → upd H q u c = some w ∧ Free (upd H q u) x c w := fun c w hc f n => ⟨(upd_ne n).trans hc, f.mv fun o => Sk.Off.putI o h hq hn.2.2.1⟩
theorem none_but {q : Addr} {H H' : Hp} {u : HO} (sb : SameBut q H H') (h : H' q = some u) {c : Addr} (n : H' c = none) : H c = none := by
  cases e : H c with
  | none => rfl
  | some w =>
    by_cases z : c = q
    · rw [z, h] at n
      cases n
    · rw [sb c w z e] at n
      cases n
theorem none_upd {q : Addr} {H : Hp} {u : HO} {c : Addr} (n : upd H q u c = none) : H c = none := none_but (q := q) (u := u) (fun _ _ ne h => (upd_ne ne).trans h) upd_same n
theorem none_same {H H' : Hp} {c : Addr} (e : Same H H') (n : H' c = none) : H c = none := by
  cases z : H c with
  | none => rfl
  | some w =>
    rw [e c w z] at n
    cases n
theorem ok_Invalidating_init (T : Txt w K mg a) : FnOk P w K mg base CX0 2 a.f_Invalidating_init a.d_Invalidating_init ["self", "kernel", "processor", "pairs"] (spIvInit2 K ⟨a.C_Memory, a.C_Sizes, a.C_Buffer, a.C_Box⟩ a.C_Invalidating a.C_Kernel) := by
  refine T.F_Invalidating_init.ok sc_Invalidating_init (fun vs H Q E h => ?_) (fun cdv A outer s H vs Q E hr h => ?_)
  · obtain ⟨q, dx, k, dk, pl, d, o, o2, o3, x, s, tk, ps, pvs, rfl, _⟩ := h
    rfl
  · obtain ⟨q, dx, k, dk, pl, d, o, o2, o3, x, s, tk, ps, pvs, rfl, hq, hk, hM, hpl, hpd, few, opl, g⟩ := h
    have nkq : k ≠ q := fun z => by
      rw [z, hq] at hk
      injection hk with hk
      injection hk with _ _ hk
      cases hk
    have g0 : ps = [] → ∀ H' os, SameBut q H H' → H os = none → InvAt K a.C_Invalidating H' x.z ⟨q, dx, os⟩ .non ⟨[], 0, 0, none, none⟩ → Q .non H' := fun e H' os sb on inv =>
      g H' os .non _ s tk (fun c u h f n _ => ⟨sb _ _ n h, f.mv fun o => off_beside hM hq sb o⟩) (sb.kt hq) on (off_beside hM hq sb (Off.fresh hM on)) (sb _ _ nkq hk) (mem_beside hM hq sb) inv (.inl ⟨e, rfl, rfl, rfl⟩)
    have g1 := fun (hp : ps ≠ []) H' os lv f kt on oo hk' hM' inv => g H' os lv ⟨(List.range x.p.toNat).filter (fun n => decide (n ≠ 0)), 0, 0, none, some ⟨(tk + 1 : Nat), ps⟩⟩ ⟨s.n, s.cells, s.bufs.set 0 ((bufAt s 0).filter (keep ps)), s.boxes, s.log⟩ (tk + 1) f kt on oo hk' hM' inv (.inr ⟨hp, rfl, rfl, rfl⟩)
    refine ⟨_, (pss_cons (ps_fld (pv 0) (pe_fld (pv 1) rfl) rfl)
    (pss_cons (ps_fld (pv 0) (pe_lst pa_nil) rfl)
    (pss_cons (ps_fld (pv 0) pe_non rfl)
    (pss_cons (ps_fld (pv 0) pe_int rfl)
    (pss_cons (ps_fld (pv 0) pe_int rfl)
    (pss_cons (ps_fld (pv 0) pe_non rfl)
    (pss_one (ps_if (pt_cmpR (op_gt) (pe_callB call_len_seq (by rfl) T.b_len (by decide +kernel) (pa_cons (pv 3) pa_nil)) pe_int (nomark _)) (pss_cons (ps_expr (pe_meth (pe_ix ix_list (pe_fld (pe_fld (pv 1) rfl) rfl) (pv 2) (fun _ _ => rfl)) T.c_Buffer T.M_Buffer_drop (ok_Buffer_drop T) (hr.mono (by decide)) T.B_Buffer_drop .nil pass0 (pa_cons (pv 3) pa_nil)))
    (pss_cons (ps_fld (pv 0) (pe_tup (pa_cons (pe_meth0 (pv 1) T.c_Kernel T.M_Kernel_next_ticket (ok_Kernel_next_ticket T) (hr.mono (by decide)) T.B_Kernel_next_ticket .nil pass0) (pa_cons (pe_callTy call_tuple_of (by rfl) T.b_tuple (by decide +kernel) (pa_cons (pv 3) pa_nil)) pa_nil))) rfl)
    (pss_one (ps_fld (pv 0) (pe_lc (own := [("other", 4)]) (g := gName 4) (tt := _) rfl sc_Invalidating_init.nd (pi_range1 rfl T.b_range (pa_cons (pe_fld (pe_fld (pv 1) rfl) rfl) pa_nil)) (blkOk_by (own := [("other", 4)]) (N := ["self", "kernel", "processor", "pairs", "other"]) (sc := defScope s_Invalidating_init) (by decide +kernel)) (fun _ _ _ _ _ => (pg_name (i := 4) sc_Invalidating_init.nd rfl (Or.inl rfl))) (fun _ _ _ _ _ => (pts_one (pt_cmpR (op_ne) (pv 4) (pv 2) (nomark _)))) (fun _ _ _ _ _ => (pv 4))) rfl)))) pss_nil)))))))), ?_⟩
    have okS := okSz_at hM.okS
    refine ⟨_, rfl, k, a.C_Kernel, dk, _, _, rfl, hk, T.c_Kernel, T.n_Kernel_sizes, rfl, _, rfl, q, a.C_Invalidating, dx, _, rfl, hq, T.c_Invalidating, T.n_Invalidating__sizes, (by show 0 < 1000; decide), ?_⟩
    refine ⟨Nat.zero_le _, fun l hl => ?_⟩
    have nql : q ≠ l := fun z => by
      rw [← z, upd_same] at hl
      cases hl
    have nl : H l = none := by
      rw [upd_ne nql.symm] at hl
      exact hl
    refine ⟨_, rfl, q, a.C_Invalidating, dx, _, rfl, (upd_ne nql).trans upd_same, T.c_Invalidating, T.n_Invalidating__others, (by show 1 < 1000; decide), ?_⟩
    refine ⟨_, rfl, q, a.C_Invalidating, dx, _, rfl, upd_same, T.c_Invalidating, T.n_Invalidating__letter, (by show 2 < 1000; decide), ?_⟩
    refine ⟨_, rfl, q, a.C_Invalidating, dx, _, rfl, upd_same, T.c_Invalidating, T.n_Invalidating__sent, (by show 3 < 1000; decide), ?_⟩
    refine ⟨_, rfl, q, a.C_Invalidating, dx, _, rfl, upd_same, T.c_Invalidating, T.n_Invalidating__answered, (by show 4 < 1000; decide), ?_⟩
    refine ⟨_, rfl, q, a.C_Invalidating, dx, _, rfl, upd_same, T.c_Invalidating, T.n_Invalidating__number, (by show 5 < 1000; decide), ?_⟩
    rw [upd_upd, upd_upd, upd_upd, upd_upd, upd_comm nql.symm, upd_upd, iv_init]
    have hq6 : upd (upd H q (.ins a.C_Invalidating dx (ivF x.z l .non ⟨[], 0, 0, none, none⟩))) l (.lst []) q = some (.ins a.C_Invalidating dx (ivF x.z l .non ⟨[], 0, 0, none, none⟩)) := (upd_ne nql).trans upd_same
    have hl6 : upd (upd H q (.ins a.C_Invalidating dx (ivF x.z l .non ⟨[], 0, 0, none, none⟩))) l (.lst []) l = some (.lst []) := upd_same
    have sb6 : SameBut q H (upd (upd H q (.ins a.C_Invalidating dx (ivF x.z l .non ⟨[], 0, 0, none, none⟩))) l (.lst [])) := fun c u n h => (upd_ne (ne_of_none h nl)).trans ((upd_ne n).trans h)
    generalize upd (upd H q (.ins a.C_Invalidating dx (ivF x.z l .non ⟨[], 0, 0, none, none⟩))) l (.lst []) = H6 at hq6 hl6 sb6 ⊢
    have np : pl ≠ q := ne_of hpl hq (fun z => nomatch z)
    have nk : k ≠ q := fun z => by
      rw [z, hq] at hk
      injection hk with hk
      injection hk with _ _ hk
      cases hk
    have hpl6 := sb6 _ _ np hpl
    have lps : pvs.length = ps.length := by rw [dpAll_len hpd, List.length_map]
    refine ⟨_, rfl, pl, _, rfl, .inl (SqL.of hpl6), _, _, rfl, rfl, _, rfl, ite2 (fun c => ?_) (fun c => ?_)⟩
    · have hp0 : ps ≠ [] := fun e => by
        rw [e] at lps
        rw [lps] at c
        cases c
      have kt6 : KT H H6 := sb6.kt hq
      have f6 : ∀ a u, H a = some u → Free H x a u → a ≠ q → H6 a = some u := fun c u h _ n => sb6 _ _ n h
      have hk6 := sb6 _ _ nk hk
      -- the memory beside the new instance
      have hM6 : MemAt K ⟨a.C_Memory, a.C_Sizes, a.C_Buffer, a.C_Box⟩ H6 x s.ms := mem_beside hM hq sb6
      have off6 : ∀ c, Off H x c → Off H6 x c := fun c o => off_beside hM hq sb6 o
      have p0 : ((0 : Nat) : Int) < x.p := by omega
      obtain ⟨yb, l0, zs, hb, hbv, hB, hE, hzs, lz, hpb⟩ := st_buf hM6 p0
      have hpd6 := dpAll_keep kt6 (noLs_pairs ps) hpd
      refine ⟨_, rfl, k, a.C_Kernel, dk, _, _, rfl, hk6, T.c_Kernel, T.n_Kernel_memory, rfl, x.m, _, x.dx, _, _, rfl, hM6.ins, T.c_Memory, T.n_Memory_buffers, rfl, _, rfl, x.bl, _, _, _, rfl, rfl, SqL.of hM6.bl, at_of (j := 0) rfl hbv, yb.1, yb.2, _, rfl, hB.ins, rfl, _, rfl, yb.1, yb.2, l0, zs, .ref pl, ps, rfl, hB, hE, by omega, .inl (.lst (SqL.of hpl6) hpd6), fun H7 l7 sb7 l7f hB7 => ?_⟩
      have kt7 := sb7.kt hB.ins
      have hM7 := Tr.MemAt.setBuf hM6 hb sb7 hB7 ((hE.kt kt7).filter _) l7f (Nat.le_trans (List.length_filter_le _ _) lz)
      have f7 := Fr.buf hM6 hb sb7 hB7 l7f
      have eS : (⟨s.ms.n, s.ms.cells, s.ms.bufs.set 0 ((zs.filter fun z => keep ps z.2).map Prod.snd), s.ms.boxes, s.ms.log⟩ : MS) = Ts.ms ⟨s.n, s.cells, s.bufs.set 0 ((bufAt s 0).filter (keep ps)), s.boxes, s.log⟩ := by
        rw [filter_snd, hzs]
        rfl
      have hM7' : MemAt K ⟨a.C_Memory, a.C_Sizes, a.C_Buffer, a.C_Box⟩ H7 x (Ts.ms ⟨s.n, s.cells, s.bufs.set 0 ((bufAt s 0).filter (keep ps)), s.boxes, s.log⟩) := eS ▸ hM7
      have freeI : ∀ {H : Hp} {c D e : Addr} {nm : Str} {v : V} {fs : List (Str × V)}, H c = some (.ins D e ((nm, v) :: fs)) → nm ≠ "sizes" → nm ≠ "_entries" → Free H x c (.ins D e ((nm, v) :: fs)) := fun _ n1 n2 => ⟨n1, n2⟩
      have hk7 := (f7 _ _ hk6 ⟨by decide +kernel, by decide +kernel⟩).1
      have hq7 := (f7 _ _ hq6 ⟨by decide +kernel, by decide +kernel⟩).1
      have hpl7 := (f7.lst hpl6 (off6 _ opl)).1
      refine ⟨_, rfl, k, dk, _, rfl, hk7, rfl, k, dk, d, o, o2, o3, x, tk, rfl, hk7, ?_⟩
      have kn : ("memory" : Str) ≠ "sizes" ∧ ("memory" : Str) ≠ "processors" ∧ ("memory" : Str) ≠ "_entries" ∧ ("memory" : Str) ≠ "_letters" := ⟨by decide +kernel, by decide +kernel, by decide +kernel, by decide +kernel⟩
      have qn : ("_sizes" : Str) ≠ "sizes" ∧ ("_sizes" : Str) ≠ "processors" ∧ ("_sizes" : Str) ≠ "_entries" ∧ ("_sizes" : Str) ≠ "_letters" := ⟨by decide +kernel, by decide +kernel, by decide +kernel, by decide +kernel⟩
      have qk : q ≠ k := fun z => nk z.symm
      have hM8 := Sk.MemAt.asideI (u := .ins a.C_Kernel dk (kerF x d o o2 o3 (tk + 1))) hM7' hk7 kn
      have f8 := fr_putI (u := .ins a.C_Kernel dk (kerF x d o o2 o3 (tk + 1))) hM7' hk7 kn
      have kt78 : KT H7 (upd H7 k (.ins a.C_Kernel dk (kerF x d o o2 o3 (tk + 1)))) := KT.ins hk7
      have hk8 : upd H7 k (.ins a.C_Kernel dk (kerF x d o o2 o3 (tk + 1))) k = some (.ins a.C_Kernel dk (kerF x d o o2 o3 (tk + 1))) := upd_same
      have hq8 := (upd_ne qk (o := .ins a.C_Kernel dk (kerF x d o o2 o3 (tk + 1)))).trans hq7
      have hpl8 := (upd_ne (ne_of hpl7 hk7 (fun z => nomatch z)) (o := .ins a.C_Kernel dk (kerF x d o o2 o3 (tk + 1)))).trans hpl7
      have kt08 : KT H (upd H7 k (.ins a.C_Kernel dk (kerF x d o o2 o3 (tk + 1)))) := (kt6.trans f7.kt).trans kt78
      have hpd8 := dpAll_keep kt08 (noLs_pairs ps) hpd
      have b8 : ∀ c, upd H7 k (.ins a.C_Kernel dk (kerF x d o o2 o3 (tk + 1))) c = none → H7 c = none := fun c n => none_upd n
      generalize upd H7 k (.ins a.C_Kernel dk (kerF x d o o2 o3 (tk + 1))) = H8 at hM8 f8 hk8 hq8 hpl8 kt08 hpd8 b8 ⊢
      refine ⟨_, rfl, pl, pvs, rfl, .inl ⟨SqL.of hpl8, fun t8 h8 => ⟨(by show 2 ≤ sizeLine; decide), fun t9 h9 => ?_⟩⟩⟩
      have e9 := (Same.new (o := .tup pvs) h8).trans (Same.new (o := .tup [.int ((tk : Int) + 1), .ref t8]) h9)
      have T8 := Same.new (o := .tup [.int ((tk : Int) + 1), .ref t8]) h9 _ _ (upd_same (H := H8) (a := t8) (o := .tup pvs))
      have T9 : upd (upd H8 t8 (.tup pvs)) t9 (.tup [.int ((tk : Int) + 1), .ref t8]) t9 = some (.tup [.int ((tk : Int) + 1), .ref t8]) := upd_same
      have hq9 := e9 _ _ hq8
      have hk9 := e9 _ _ hk8
      have hM9 := hM8.same e9
      have f9 := Fr.same hM8 e9
      generalize upd (upd H8 t8 (.tup pvs)) t9 (.tup [.int ((tk : Int) + 1), .ref t8]) = H9 at e9 T8 T9 hq9 hk9 hM9 f9 ⊢
      refine ⟨_, rfl, q, a.C_Invalidating, dx, _, rfl, hq9, T.c_Invalidating, T.n_Invalidating__letter, (by show 6 < 1000; decide), ?_⟩
      rw [iv_letter]
      have hM10 := Sk.MemAt.asideI (u := .ins a.C_Invalidating dx (ivF x.z l (.ref t9) ⟨[], 0, 0, none, none⟩)) hM9 hq9 qn
      have f10 := fr_putI (u := .ins a.C_Invalidating dx (ivF x.z l (.ref t9) ⟨[], 0, 0, none, none⟩)) hM9 hq9 qn
      have kt910 : KT H9 (upd H9 q (.ins a.C_Invalidating dx (ivF x.z l (.ref t9) ⟨[], 0, 0, none, none⟩))) := KT.ins hq9
      have hq10 : upd H9 q (.ins a.C_Invalidating dx (ivF x.z l (.ref t9) ⟨[], 0, 0, none, none⟩)) q = some (.ins a.C_Invalidating dx (ivF x.z l (.ref t9) ⟨[], 0, 0, none, none⟩)) := upd_same
      have hk10 := (upd_ne nk (o := .ins a.C_Invalidating dx (ivF x.z l (.ref t9) ⟨[], 0, 0, none, none⟩))).trans hk9
      have T8' := kt910 _ _ T8 True.intro
      have T9' := kt910 _ _ T9 True.intro
      have b10 : ∀ c, upd H9 q (.ins a.C_Invalidating dx (ivF x.z l (.ref t9) ⟨[], 0, 0, none, none⟩)) c = none → H9 c = none := fun c n => none_upd n
      generalize upd H9 q (.ins a.C_Invalidating dx (ivF x.z l (.ref t9) ⟨[], 0, 0, none, none⟩)) = H10 at b10 hM10 f10 kt910 hq10 hk10 T8' T9' ⊢
      refine ⟨_, rfl, k, a.C_Kernel, dk, _, _, rfl, hk10, T.c_Kernel, T.n_Kernel_sizes, rfl, x.z, _, x.dz, _, _, rfl, hM10.sz, T.c_Sizes, T.n_Sizes_processors, rfl, _, rfl, by omega, by omega, fun D hD => ?_⟩
      have fq : ∀ n : Nat, ((List.range n).filter (fun n => decide (n ≠ 0))).length ≤ n := fun n => Nat.le_trans (List.length_filter_le _ _) (by rw [List.length_range]; exact Nat.le_refl _)
      refine lc_range (lo := 0) (n := x.p.toNat) (fun i H' => ∃ G, H' = upd G D (.lst (((List.range i).filter (fun n => decide (n ≠ 0))).map fun (n : Nat) => V.int (n : Int))) ∧ Same H10 G ∧ G D = none)
        ⟨H10, rfl, Same.refl _, hD⟩ ?_ ?_
      · rintro i H' hi ⟨G, rfl, eS, gD⟩
        have e0 : (0 : Int) + (i : Int) = (i : Int) := Int.zero_add _
        refine ⟨rfl, _, rfl, _, rfl, rfl, _, rfl, ite2 (fun c2 => ?_) (fun c2 => ?_)⟩
        · have n0 : i ≠ 0 := fun z => by
            rw [z] at c2
            simp at c2
          refine ⟨_, rfl, _, upd_same, ?_, G, ?_, eS, gD⟩
          · rw [List.length_map]
            exact Nat.lt_of_le_of_lt (fq i) (Nat.lt_of_lt_of_le (by omega : i < 100) (by decide))
          · rw [upd_upd, List.range_succ, List.filter_append, List.map_append, List.filter_cons, if_pos (decide_eq_true n0), e0]
            rfl
        · have n0 : i = 0 := by
            simp at c2
            omega
          refine ⟨G, ?_, eS, gD⟩
          rw [List.range_succ, List.filter_append, List.filter_cons, if_neg (by rw [n0]; simp), List.filter_nil, List.append_nil]
      · rintro H' ⟨G, rfl, eS, gD⟩
        have e11 := eS.trans (Same.new (o := .lst (((List.range x.p.toNat).filter (fun n => decide (n ≠ 0))).map fun (n : Nat) => V.int (n : Int))) gD)
        have hD11 : upd G D (.lst (((List.range x.p.toNat).filter (fun n => decide (n ≠ 0))).map fun (n : Nat) => V.int (n : Int))) D = some (.lst (((List.range x.p.toNat).filter (fun n => decide (n ≠ 0))).map fun (n : Nat) => V.int (n : Int))) := upd_same
        generalize upd G D (.lst (((List.range x.p.toNat).filter (fun n => decide (n ≠ 0))).map fun (n : Nat) => V.int (n : Int))) = H11 at e11 hD11 ⊢
        have hM11 := hM10.same e11
        have f11 := Fr.same hM10 e11
        have hq11 := e11 _ _ hq10
        have hk11 := e11 _ _ hk10
        refine ⟨_, rfl, q, a.C_Invalidating, dx, _, rfl, hq11, T.c_Invalidating, T.n_Invalidating__others, (by show 6 < 1000; decide), ?_⟩
        rw [iv_others]
        have hM12 := Sk.MemAt.asideI (u := .ins a.C_Invalidating dx (ivF x.z D (.ref t9) ⟨[], 0, 0, none, none⟩)) hM11 hq11 qn
        have f12 := fr_putI (u := .ins a.C_Invalidating dx (ivF x.z D (.ref t9) ⟨[], 0, 0, none, none⟩)) hM11 hq11 qn
        have kt12 : KT H11 (upd H11 q (.ins a.C_Invalidating dx (ivF x.z D (.ref t9) ⟨[], 0, 0, none, none⟩))) := KT.ins hq11
        have nDq : D ≠ q := ne_of hD11 hq11 (fun z => nomatch z)
        have D9 := b10 D hD
        have D0 : H D = none := none_but sb6 hq6 (none_but sb7 hB7.ins (b8 D (none_same e9 D9)))
        have Q12 := Sk.Off.putI (u := .ins a.C_Invalidating dx (ivF x.z D (.ref t9) ⟨[], 0, 0, none, none⟩)) ((Off.fresh hM10 hD).same hM10 e11) hM11 hq11 qn.2.2.1
        have D12 := (upd_ne nDq (o := .ins a.C_Invalidating dx (ivF x.z D (.ref t9) ⟨[], 0, 0, none, none⟩))).trans hD11
        have hk12 := (upd_ne nk (o := .ins a.C_Invalidating dx (ivF x.z D (.ref t9) ⟨[], 0, 0, none, none⟩))).trans hk11
        have T8'' := kt12 _ _ (e11 _ _ T8') True.intro
        have T9'' := kt12 _ _ (e11 _ _ T9') True.intro
        have kt812 : KT H8 (upd H11 q (.ins a.C_Invalidating dx (ivF x.z D (.ref t9) ⟨[], 0, 0, none, none⟩))) := (((KT.of e9).trans kt910).trans (KT.of e11)).trans kt12
        refine g1 hp0 _ D (.ref t9) (fun c u hc fc nq nk' => ?_) (kt08.trans kt812) D0 Q12 hk12 hM12 ⟨upd_same, D12, ⟨t9, .ref t8, rfl, ?_, ?_⟩, others_len _ (by omega), fun _ => ⟨_, rfl⟩⟩
        · have r7 := f7 c u (f6 c u hc fc nq) (fc.mv fun o => off6 _ o)
          have r8 := f8 c u r7.1 r7.2 nk'
          have r9 := f9 c u r8.1 r8.2
          have r10 := f10 c u r9.1 r9.2 nq
          have r11 := f11 c u r10.1 r10.2
          exact f12 c u r11.1 r11.2 nq
        · exact T9''
        · exact .tup (SqT.of T8'') (dpAll_keep kt812 (noLs_pairs ps) hpd8)
    · have hp0 : ps = [] := by
        cases ps with
        | nil => rfl
        | cons y r =>
          rw [lps] at c
          exact absurd (decide_eq_true (by simp only [List.length_cons]; omega)) c
      exact g0 hp0 H6 l sb6 nl ⟨hq6, hl6, rfl, by decide, fun h => absurd rfl h⟩

theorem dp_two {K : PySem.W.Frag} {H : Hp} {t : Addr} {z : Str} {d : PyData} (h : Dp K H (.ref t) (.tuple [.str z, d])) : ∃ v, SqT K H t [.str z, v] := by
  cases h with
  | tup hq ha =>
    cases ha with
    | cons h1 h2 =>
      cases h2 with
      | cons h3 h4 =>
        cases h4
        cases h1
        exact ⟨_, hq⟩
theorem rq_two {K : PySem.W.Frag} {H : Hp} {t : Addr} {r : Rq} (h : Dp K H (.ref t) (rqD r)) : (∃ ds, ds.length ≠ 2 ∧ Dp K H (.ref t) (.tuple ds)) ∨ ∃ v d, SqT K H t [.str "read", v] ∧ Dp K H (.ref t) (.tuple [.str "read", d]) := by
  cases r with
  | read c =>
    obtain ⟨v, hv⟩ := dp_two h
    exact .inr ⟨v, _, hv, h⟩
  | write c d => exact .inl ⟨_, by simp, h⟩
  | walk s g => exact .inl ⟨_, by simp, h⟩
  | send to l => exact .inl ⟨_, by simp, h⟩
  | take => exact .inl ⟨_, by simp, h⟩
theorem ok_Stack__settled (T : Txt w K mg a) : FnOk P w K mg base CX0 3 a.f_Stack__settled a.d_Stack__settled ["self"] (spSettle8 K ⟨a.C_Kernel, a.C_Stack, a.C_Invalidating, a.C_Invalidating⟩ a.C_Invalidating a.C_Sizes) := by
  refine T.F_Stack__settled.ok sc_Stack__settled (fun vs H Q E h => ?_) (fun cdv A outer s H vs Q E hr h => ?_)
  · obtain ⟨y, z, dz, p, f, b, i, lv, s, w, rfl, _⟩ := h
    rfl
  · obtain ⟨⟨q, dx, l, mm⟩, z, dz, p, f, b, i, lv, v, u, rfl, hS, hz, hI, g1, g2⟩ := h
    refine ⟨_, (pss_cons (ps_while PassesOwn.never (pt_not (pt_val (pe_meth0 (pv 0) T.c_Stack T.M_Stack_ended (ok_Stack_ended T) (hr.mono (by decide)) T.B_Stack_ended .nil pass0)))
    (pss_cons (ps_set (i := 1) sc_Stack__settled.nd rfl (Or.inl rfl) (pe_meth0 (pe_ix ix_list (pe_fld (pv 0) rfl) (pe_un un_neg pe_int) (fun _ _ => rfl)) T.c_Invalidating T.M_Invalidating_request (ok_Invalidating_request T) (hr.mono (by decide)) T.B_Invalidating_request .nil pass0))
    (pss_one (ps_if (pt_val (pe_call (ok_asks_for T) (hr.mono (by decide)) rfl T.m_asks_for T.F_asks_for.kp T.B_asks_for .nil pass0 (pa_cons (pv 1) (pa_cons pe_str pa_nil)))) (pss_one (ps_expr (pe_bm PySem.F.plainAttrs_list PySem.F.slot_list_append PySem.F.type_list_append mt_append (pe_fld (pv 0) rfl) (pa_cons (pe_ix ix_tup (pv 1) pe_int (fun _ _ => rfl)) pa_nil)))) (pss_one (ps_if (pt_val (pe_call (ok_asks_for T) (hr.mono (by decide)) rfl T.m_asks_for T.F_asks_for.kp T.B_asks_for .nil pass0 (pa_cons (pv 1) (pa_cons pe_str pa_nil)))) (pss_one (ps_expr (pe_meth (pv 0) T.c_Stack T.M_Stack__end (ok_Stack__end T) (hr.mono (by decide)) T.B_Stack__end .nil pass0 (pa_cons (pe_ix ix_tup (pv 1) pe_int (fun _ _ => rfl)) pa_nil)))) (pss_one (ps_ret (pv 1)))))))))
    (pss_one (ps_ret pe_non))), ?_⟩
    refine ⟨fun m σ' H' => (m = 1 ∧ H' = H ∧ ∃ z, σ' = [some (.ref q), z]) ∨ (m = 0 ∧ ivR v = none ∧ Keep [q, l] H H' ∧ KT H H' ∧ StkAt ⟨a.C_Kernel, a.C_Stack, a.C_Invalidating, a.C_Invalidating⟩ H' ⟨q, dx, l, mm⟩ [] (natV v.num) ∧ ∃ z, σ' = [some (.ref q), z]), ⟨1, .inl ⟨rfl, rfl, _, rfl⟩⟩, ?_⟩
    rintro m σ1 H1 (⟨rfl, rfl, z1, rfl⟩ | ⟨rfl, eN, kp, kt, hS2, z1, rfl⟩)
    · refine ⟨_, rfl, q, dx, _, rfl, hS.ins, rfl, ⟨q, dx, l, mm⟩, _, _, rfl, hS, .inr ⟨_, rfl, _, rfl, iteT ⟨fun σ' H' => ivR v = none ∧ Keep [q, l] H1 H' ∧ KT H1 H' ∧ StkAt ⟨a.C_Kernel, a.C_Stack, a.C_Invalidating, a.C_Invalidating⟩ H' ⟨q, dx, l, mm⟩ [] (natV v.num) ∧ ∃ z, σ' = [some (.ref q), z], fun _ _ hN => ⟨0, by decide, .inr ⟨rfl, hN⟩⟩, ?_⟩⟩⟩
      refine ⟨_, rfl, q, a.C_Stack, dx, _, _, rfl, hS.ins, T.c_Stack, T.n_Stack__machines, rfl, _, rfl, l, _, _, _, rfl, rfl, SqL.of hS.lst, rfl, i.q, i.dx, _, rfl, hI.ins, rfl, z, dz, p, f, b, i, lv, v, rfl, hz, hI, fun r er H2 t e hd => ?_, fun er t ht => ?_⟩
      · have q := g1 r er H2 t e hd
        rcases rq_two hd with ⟨ds, nd, hd⟩ | ⟨v, d, hv, hd⟩
        · exact ⟨_, rfl, t, _, "call", rfl, hd, .inl ⟨nd, _, rfl, iteF ⟨_, rfl, t, _, "end", rfl, hd, .inl ⟨nd, _, rfl, iteF ⟨_, rfl, q⟩⟩⟩⟩⟩
        · exact ⟨_, rfl, t, _, "call", rfl, hd, .inr ⟨"read", v, d, rfl, hv, _, rfl, ifF (by decide +kernel) ⟨_, rfl, t, _, "end", rfl, hd, .inr ⟨"read", v, d, rfl, hv, _, rfl, ifF (by decide +kernel) ⟨_, rfl, q⟩⟩⟩⟩⟩
      · have eS := Same.new (o := .tup [.str "end", natV v.num]) ht
        have hS2 : StkAt ⟨a.C_Kernel, a.C_Stack, a.C_Invalidating, a.C_Invalidating⟩ (upd H1 t (.tup [.str "end", natV v.num])) ⟨q, dx, l, mm⟩ [.ref i.q] u := ⟨eS _ _ hS.ins, eS _ _ hS.lst⟩
        have hd : Dp K (upd H1 t (.tup [.str "end", natV v.num])) (.ref t) (.tuple [.str "end", (v.num.map fun n => PyData.int (n : Int)).getD .none]) := .tup (SqT.of upd_same) (.cons (.str _) (.cons (by cases v.num with | none => exact .non | some n => exact .int _) .nil))
        refine ⟨_, rfl, t, _, "call", rfl, hd, .inr ⟨"end", natV v.num, _, rfl, SqT.of upd_same, _, rfl, ifF (by decide +kernel) ?_⟩⟩
        refine ⟨_, rfl, t, _, "end", rfl, hd, .inr ⟨"end", natV v.num, _, rfl, SqT.of upd_same, _, rfl, ifT (by decide +kernel) ?_⟩⟩
        refine ⟨_, rfl, q, dx, _, rfl, hS2.ins, rfl, _, rfl, _, _, _, _, rfl, rfl, SqT.of upd_same, at_of (j := 1) rfl rfl, ⟨q, dx, l, mm⟩, _, _, _, rfl, hS2, ?_⟩
        have nq : q ≠ l := ne_of hS2.ins hS2.lst (fun z => nomatch z)
        exact ⟨er, (Keep.same eS).trans ((Keep.put (by simp)).trans (Keep.put (by simp))), ((KT.of eS).trans (KT.lst hS2.lst)).trans (KT.ins ((upd_ne nq).trans hS2.ins)), ⟨upd_same, (upd_ne nq.symm).trans upd_same⟩, _, rfl⟩
    · exact ⟨_, rfl, q, dx, _, rfl, hS2.ins, rfl, ⟨q, dx, l, mm⟩, _, _, rfl, hS2, .inl ⟨rfl, _, rfl, iteF (g2 eN _ kp kt hS2)⟩⟩

theorem iv_val {K : PySem.W.Frag} {C : Cl4} {H : Hp} {x : MX} {s : Ts} {v : IvS} {r : Rq} (h : MemAt K C H x s.ms) (er : ivR v = some r) : noL (runR x.p s 0 r).val = true ∧ SeqAt.shaped (runR x.p s 0 r).val = true := by
  have cv : ∀ c, noL (cellAt s.cells c) = true ∧ SeqAt.shaped (cellAt s.cells c) = true := fun c => by
    unfold cellAt
    cases e : s.cells[c.toNat]? with
    | none => exact ⟨rfl, rfl⟩
    | some d =>
      obtain ⟨h1, h2⟩ := h.shC d (mem_of_get e)
      exact ⟨h1, h2.ok⟩
  unfold ivR at er
  cases e1 : v.m[v.sent]? with
  | some to =>
    cases e2 : v.l with
    | some l =>
      rw [e1, e2] at er
      injection er with er
      subst er
      exact ⟨rfl, rfl⟩
    | none =>
      rw [e1, e2] at er
      cases er
  | none =>
    cases e3 : v.m[v.ans]? with
    | some o =>
      rw [e1, e3] at er
      injection er with er
      subst er
      exact cv _
    | none =>
      rw [e1, e3] at er
      cases er
theorem ok_Stack_step (T : Txt w K mg a) : FnOk P w K mg base CX0 10 a.f_Stack_step a.d_Stack_step ["self", "memory", "processor"] (spStep8 K ⟨a.C_Memory, a.C_Sizes, a.C_Buffer, a.C_Box⟩ ⟨a.C_Kernel, a.C_Stack, a.C_Invalidating, a.C_Invalidating⟩ a.C_Invalidating) := by
  refine T.F_Stack_step.ok sc_Stack_step (fun vs H Q E h => ?_) (fun cdv A outer s H vs Q E hr h => ?_)
  · obtain ⟨y, i, lv, v, w, x, s, rfl, _⟩ := h
    rfl
  · obtain ⟨⟨q, dx, l, mm⟩, i, lv, v, wv, x, s, rfl, hM, tok, rok, hS, hI, offL, offI, lim, g1, g2⟩ := h
    refine ⟨_, (pss_cons (ps_set (i := 3) sc_Stack_step.nd rfl (Or.inl rfl) (pe_meth0 (pv 0) T.c_Stack T.M_Stack__settled (ok_Stack__settled T) (hr.mono (by decide)) T.B_Stack__settled .nil pass0))
    (pss_cons (ps_if (pt_val (pe_meth0 (pv 0) T.c_Stack T.M_Stack_ended (ok_Stack_ended T) (hr.mono (by decide)) T.B_Stack_ended .nil pass0)) (pss_one (ps_ret pe_bl)) pss_nil)
    (pss_cons (ps_set (i := 4) sc_Stack_step.nd rfl (Or.inl rfl) (pe_meth (pv 1) T.c_Memory T.M_Memory_access (ok_Memory_access T) (hr.mono (by decide)) T.B_Memory_access .nil passL (pa_cons (pv 2) (pa_cons (pv 3) pa_nil))))
    (pss_cons (ps_expr (pe_meth (pe_ix ix_list (pe_fld (pv 0) rfl) (pe_un un_neg pe_int) (fun _ _ => rfl)) T.c_Invalidating T.M_Invalidating_accept (ok_Invalidating_accept T) (hr.mono (by decide)) T.B_Invalidating_accept .nil pass0 (pa_cons (pv 4) pa_nil)))
    (pss_cons (ps_expr (pe_meth0 (pv 0) T.c_Stack T.M_Stack__settled (ok_Stack__settled T) (hr.mono (by decide)) T.B_Stack__settled .nil pass0))
    (pss_one (ps_ret pe_bl))))))), ?_⟩
    obtain ⟨⟨p0, p1⟩, _, _⟩ := okSz_at hM.okS
    have sn : ("_machines" : Str) ≠ "sizes" ∧ ("_machines" : Str) ≠ "processors" ∧ ("_machines" : Str) ≠ "_entries" ∧ ("_machines" : Str) ≠ "_letters" := ⟨by decide +kernel, by decide +kernel, by decide +kernel, by decide +kernel⟩
    have qn : ("_sizes" : Str) ≠ "sizes" ∧ ("_sizes" : Str) ≠ "processors" ∧ ("_sizes" : Str) ≠ "_entries" ∧ ("_sizes" : Str) ≠ "_letters" := ⟨by decide +kernel, by decide +kernel, by decide +kernel, by decide +kernel⟩
    have nqi : q ≠ i.q := fun z => by
      have h1 := hI.ins
      rw [← z, hS.ins] at h1
      injection h1 with h1
      injection h1 with _ _ h1
      injection h1 with h1 _
      injection h1 with h1 _
      exact absurd h1 (by decide +kernel)
    have nli : l ≠ i.q := ne_of hS.lst hI.ins (fun z => nomatch z)
    have nql : q ≠ l := ne_of hS.ins hS.lst (fun z => nomatch z)
    refine ⟨_, rfl, q, dx, _, rfl, hS.ins, rfl, ⟨q, dx, l, mm⟩, x.z, x.dz, x.p, x.f, x.b, i, lv, v, wv, rfl, hS, hM.sz, hI, fun r er H1 t1 e1 hd => ?_, fun er H1 kp kt hS1 => ?_⟩
    · have hS1 : StkAt ⟨a.C_Kernel, a.C_Stack, a.C_Invalidating, a.C_Invalidating⟩ H1 ⟨q, dx, l, mm⟩ [.ref i.q] wv := ⟨e1 _ _ hS.ins, e1 _ _ hS.lst⟩
      have hI1 := hI.same e1
      have hM1 := hM.same e1
      have f1 := Fr.same hM e1
      have offL1 := (f1.lst hS.lst offL).2
      have offI1 := (f1.lst hI.os offI).2
      refine ⟨_, rfl, q, dx, _, rfl, hS1.ins, rfl, ⟨q, dx, l, mm⟩, _, _, rfl, hS1, .inr ⟨_, rfl, _, rfl, iteF ?_⟩⟩
      refine ⟨_, rfl, x.m, x.dx, _, rfl, hM1.ins, rfl, _, rfl, _, rfl, x, s, 0, _, r, rfl, hM1, tok, by omega, hd, rok r er, lim, fun H2 vv t fr hM2 ht hv => ?_⟩
      obtain ⟨nv, sv⟩ := iv_val hM er
      have hS2 : StkAt ⟨a.C_Kernel, a.C_Stack, a.C_Invalidating, a.C_Invalidating⟩ H2 ⟨q, dx, l, mm⟩ [.ref i.q] wv := ⟨(fr _ _ hS1.ins ⟨sn.1, sn.2.2.1⟩).1, (fr.lst hS1.lst offL1).1⟩
      have hI2 := hI1.fr fr offI1
      have offL2 := (fr.lst hS1.lst offL1).2
      have offI2 := (fr.lst hI1.os offI1).2
      refine ⟨_, rfl, q, a.C_Stack, dx, _, _, rfl, hS2.ins, T.c_Stack, T.n_Stack__machines, rfl, _, rfl, l, _, _, _, rfl, rfl, SqL.of hS2.lst, rfl, i.q, i.dx, _, rfl, hI2.ins, rfl, _, rfl, x.z, i, lv, v, t, vv, (runR x.p s 0 r).val, s.n + 1, rfl, hI2, ⟨r, er⟩, ht, hv, nv, sv, fun u hI3 => ?_⟩
      have hM3 := Sk.MemAt.asideI (u := u) hM2 hI2.ins qn
      have f3 := fr_putI (u := u) hM2 hI2.ins qn
      have kt3 : KT H2 (upd H2 i.q u) := KT.ins hI2.ins
      have hS3 : StkAt ⟨a.C_Kernel, a.C_Stack, a.C_Invalidating, a.C_Invalidating⟩ (upd H2 i.q u) ⟨q, dx, l, mm⟩ [.ref i.q] wv := ⟨(upd_ne nqi).trans hS2.ins, (upd_ne nli).trans hS2.lst⟩
      have offL3 := Sk.Off.putI (u := u) offL2 hM2 hI2.ins qn.2.2.1
      have offI3 := Sk.Off.putI (u := u) offI2 hM2 hI2.ins qn.2.2.1
      generalize upd H2 i.q u = H3 at hM3 f3 kt3 hS3 hI3 offL3 offI3 ⊢
      have kt03 : KT H H3 := (((KT.of e1).trans fr.kt).trans kt3)
      have f03 : ∀ a u, H a = some u → Free H x a u → a ≠ i.q → H3 a = some u ∧ Free H3 x a u := fun c u hc fc n => by
        have r1 := f1 c u hc fc
        have r2 := fr c u r1.1 r1.2
        exact f3 c u r2.1 r2.2 n
      refine ⟨_, rfl, q, dx, _, rfl, hS3.ins, rfl, ⟨q, dx, l, mm⟩, x.z, x.dz, x.p, x.f, x.b, i, lv, _, wv, rfl, hS3, hM3.sz, hI3, fun r2 er2 H4 t4 e4 hd4 => ?_, fun er2 H4 kp4 kt4 hS4 => ?_⟩
      · have f4 := Fr.same hM3 e4
        exact (g2 r er H4 (fun c u hc fc n => by
          have r3 := f03 c u hc fc (fun z => n (by simp [z]))
          exact f4 c u r3.1 r3.2) (kt03.trans (KT.of e4)) (hM3.same e4)).1 (fun z => by rw [er2] at z; cases z) ⟨e4 _ _ hS3.ins, e4 _ _ hS3.lst⟩ (hI3.same e4) (f4.lst hS3.lst offL3).2 (f4.lst hI3.os offI3).2
      · have ap : ∀ c ∈ [q, l], Sk.Apart H3 x c := fun c hc => by
          simp only [List.mem_cons, List.not_mem_nil, or_false] at hc
          rcases hc with rfl | rfl
          · exact .inl ⟨_, _, _, _, _, hS3.ins, sn⟩
          · exact .inr ⟨⟨_, hS3.lst⟩, offL3⟩
        have hM4 := Sk.MemAt.apart hM3 kt4 kp4 ap
        exact (g2 r er H4 (fun c u hc fc n => by
          have r3 := f03 c u hc fc (fun z => n (by simp [z]))
          exact ⟨kp4 _ _ (fun z => n (by
            simp only [List.mem_cons, List.not_mem_nil, or_false] at z ⊢
            rcases z with z | z
            · exact .inl z
            · exact .inr (.inl z))) r3.1, r3.2.mv fun o => Sk.Off.apart o hM3 kp4 ap⟩) (kt03.trans kt4) hM4).2 er2 hS4
    · exact ⟨_, rfl, q, dx, _, rfl, hS1.ins, rfl, ⟨q, dx, l, mm⟩, _, _, rfl, hS1, .inl ⟨rfl, _, rfl, iteT (g1 er H1 kp kt hS1)⟩⟩

end
/-! ### the tape: what it holds does not matter, only that it holds few numbers from 0 to 999 -/
def Dig (ts : List Int) : Prop := ∀ t ∈ ts, 0 ≤ t ∧ t < 1000
theorem Dig.nil : Dig [] := fun _ h => absurd h List.not_mem_nil
theorem Dig.snoc {ts : List Int} {x : Int} (h : Dig ts) (h0 : 0 ≤ x) (h1 : x < 1000) : Dig (ts ++ [x]) := fun t ht => by
  rcases List.mem_append.mp ht with ht | ht
  · exact h t ht
  · rw [List.mem_singleton.mp ht]
    exact ⟨h0, h1⟩
def spTape (K : PySem.W.Frag) : Sp := fun vs H Q _ => ∃ (p : Addr) (ns : List Int), vs = [.ref p] ∧ SqL K H p (ns.map V.int) ∧ ns.length ≤ 63 ∧
  ∀ (H' : Hp) (t : Addr) (ts : List Int), Same H H' → H t = none → H' t = some (.lst (ts.map V.int)) → Dig ts → ts.length ≤ 3780 → Q (.ref t) H'
section
variable {P : Program} {w : World} {K : PySem.W.Frag} {mg : Str → Option Value} {base : Heap} {a : Ad}
theorem mod1000 (v : Int) : 0 ≤ v % 1000 ∧ v % 1000 < 1000 := ⟨Int.emod_nonneg _ (by decide), Int.emod_lt_of_pos _ (by decide)⟩
theorem snoc_int (ts : List Int) (x : Int) : ts.map V.int ++ [V.int x] = (ts ++ [x]).map V.int := by rw [List.map_append]; rfl
theorem ok__law_tape (T : Txt w K mg a) : FnOk P w K mg base CX0 1 a.f__law_tape a.d__law_tape ["script"] (spTape K) := by
  refine T.F__law_tape.ok sc__law_tape (fun vs H Q E h => ?_) (fun cdv A outer s H vs Q E hr h => ?_)
  · obtain ⟨p, ns, rfl, _⟩ := h
    rfl
  · obtain ⟨sp, ns, rfl, hS, hlen, q⟩ := h
    refine ⟨_, (pss_cons (ps_set (i := 1) sc__law_tape.nd rfl (Or.inl rfl) (pe_lst pa_nil))
    (pss_cons (ps_for PassesOwn.never rfl (pi_range1 rfl T.b_range (pa_cons (pe_callB call_len_seq (by rfl) T.b_len (by decide +kernel) (pa_cons (pv 0) pa_nil)) pa_nil)) (pg_name (i := 2) sc__law_tape.nd rfl (Or.inl rfl))
    (pss_cons (ps_set (i := 3) sc__law_tape.nd rfl (Or.inl rfl) (pe_callB call_abs (by rfl) T.b_abs (by decide +kernel) (pa_cons (pe_callTy call_int1 (by rfl) T.b_int (by decide +kernel) (pa_cons (pe_ix ix_list (pv 0) (pv 2) (fun _ _ => rfl)) pa_nil)) pa_nil)))
    (pss_one (ps_if (pt_cmpR (op_ge) (pv 3) (pe_op op_pow pe_int pe_int) (nomark _)) (pss_one (ps_for PassesOwn.never rfl (pi_range1 rfl T.b_range (pa_cons pe_int pa_nil)) (pg_name (i := 4) sc__law_tape.nd rfl (Or.inl rfl))
    (pss_one (ps_if (pt_cmpR (op_gt) (pv 3) pe_int (nomark _)) (pss_cons (ps_expr (pe_bm PySem.F.plainAttrs_list PySem.F.slot_list_append PySem.F.type_list_append mt_append (pv 1) (pa_cons (pe_op op_mod (pv 3) pe_int) pa_nil)))
    (pss_one (ps_set (i := 3) sc__law_tape.nd rfl (Or.inl rfl) (pe_op op_fdiv (pv 3) pe_int)))) pss_nil)))) (pss_one (ps_for PassesOwn.never rfl (pi_range1 rfl T.b_range (pa_cons pe_int pa_nil)) (pg_name (i := 4) sc__law_tape.nd rfl (Or.inl rfl))
    (pss_cons (ps_set (i := 3) sc__law_tape.nd rfl (Or.inl rfl) (pe_op op_mod (pe_op op_add (pe_op op_add (pe_op op_mul (pv 3) pe_int) (pe_op op_mul pe_int (pe_op op_add (pv 2) pe_int))) (pe_op op_mul pe_int (pv 4))) pe_int))
    (pss_cons (ps_set (i := 3) sc__law_tape.nd rfl (Or.inl rfl) (pe_op op_mod (pe_op op_mul (pv 3) pe_int) pe_int))
    (pss_one (ps_expr (pe_bm PySem.F.plainAttrs_list PySem.F.slot_list_append PySem.F.type_list_append mt_append (pv 1) (pa_cons (pe_op op_mod (pe_op op_fdiv (pv 3) pe_int) pe_int) pa_nil))))))))))))
    (pss_one (ps_ret (pv 1))))), ?_⟩
    have len0 : ((List.length (ns.map V.int) : Nat) : Int) ≤ 63 := by rw [List.length_map]; omega
    refine ⟨Nat.zero_le _, fun p hp => ?_⟩
    refine ⟨_, rfl, sp, _, rfl, .inl ((Same.new hp).seq hS), _, rfl, by omega, by omega,
      for_range (lo := 0) (n := ((List.length (ns.map V.int) : Nat) : Int).toNat)
        (fun i σ H' => ∃ (x2 x3 x4 : Option V) (ts : List Int), σ = [some (.ref sp), some (.ref p), x2, x3, x4] ∧ Same H H' ∧ H' p = some (.lst (ts.map V.int)) ∧ Dig ts ∧ ts.length ≤ 60 * i)
        ⟨none, none, none, [], rfl, Same.new hp, upd_same, Dig.nil, Nat.le_refl _⟩ ?_ ?_⟩
    · rintro i σ H' hi ⟨x2, x3, x4, ts, rfl, eS, hL, dg, hl⟩
      rw [List.length_map] at hi
      have hi2 : i < ns.length := by omega
      refine ⟨_, rfl, _, rfl, _, _, _, .int ns[i], rfl, rfl, eS.seq hS, at_of (j := i) (by omega) (by rw [List.getElem?_map, List.getElem?_eq_getElem hi2]; rfl), ?_⟩
      refine .inl ⟨_, rfl, _, rfl, ?_⟩
      refine ⟨_, rfl, _, _, rfl, rfl, ⟨by decide, by decide, by decide⟩, _, _, rfl, rfl, _, rfl, ?_⟩
      refine ite2 (fun c => ?_) (fun c => ?_)
      · refine ⟨60, rfl, by decide, by decide, for_range (lo := 0) (n := (60 : Int).toNat)
          (fun j σ H' => ∃ (v : Int) (x4 : Option V) (ts : List Int), σ = [some (.ref sp), some (.ref p), some (.int (0 + (i : Int))), some (.int v), x4] ∧ Same H H' ∧ H' p = some (.lst (ts.map V.int)) ∧ Dig ts ∧ ts.length ≤ 60 * i + j)
          ⟨_, _, ts, rfl, eS, hL, dg, hl⟩ ?_ ?_⟩
        · rintro j σ H2 hj ⟨v, x4, ts, rfl, eS, hL, dg, hl⟩
          refine ⟨_, rfl, _, _, rfl, rfl, _, rfl, ?_⟩
          have hj2 : j < 60 := hj
          refine ite2 (fun c2 => ?_) (fun c2 => ?_)
          · obtain ⟨m0, m1⟩ := mod1000 v
            refine ⟨_, rfl, .inl ⟨rfl, _, SqL.of hL⟩, _, rfl, _, _, rfl, rfl, (by show (0 : Int) < 1000; decide), p, _, _, rfl, rfl, hL, ?_, ?_⟩
            · rw [List.length_map]
              exact Nat.lt_of_le_of_lt (by omega : ts.length ≤ 4000) (by decide)
            · refine ⟨_, rfl, _, _, rfl, rfl, ⟨by decide, by decide⟩, ?_⟩
              refine ⟨_, _, ts ++ [v % 1000], rfl, Same.put eS hp, ?_, dg.snoc m0 m1, ?_⟩
              · rw [upd_same, snoc_int]
              · rw [List.length_append, List.length_singleton]
                omega
          · exact ⟨v, _, ts, rfl, eS, hL, dg, by omega⟩
        · rintro σ H2 ⟨v, x4, ts, rfl, eS, hL, dg, hl⟩
          exact ⟨_, _, _, ts, rfl, eS, hL, dg, by simp at hl; omega⟩
      · refine ⟨4, rfl, by decide, by decide, for_range (lo := 0) (n := (4 : Int).toNat)
          (fun j σ H' => ∃ (v : Int) (x4 : Option V) (ts : List Int), σ = [some (.ref sp), some (.ref p), some (.int (0 + (i : Int))), some (.int v), x4] ∧ Same H H' ∧ H' p = some (.lst (ts.map V.int)) ∧ Dig ts ∧ ts.length ≤ 60 * i + j)
          ⟨_, _, ts, rfl, eS, hL, dg, hl⟩ ?_ ?_⟩
        · rintro j σ H2 hj ⟨v, x4, ts, rfl, eS, hL, dg, hl⟩
          have hj2 : j < 4 := hj
          refine ⟨_, rfl, _, _, rfl, rfl, .inr ⟨by decide, by decide⟩, _, rfl, _, _, rfl, rfl, _, _, rfl, rfl, .inl ⟨by decide, by decide⟩, _, _, rfl, rfl, _, rfl, _, _, rfl, rfl, .inl ⟨by decide, by decide⟩,
            _, _, rfl, rfl, _, _, rfl, rfl, (by show (0 : Int) < 2147483647; decide), ?_⟩
          refine ⟨_, rfl, _, _, rfl, rfl, .inr ⟨by decide, by decide⟩, _, _, rfl, rfl, (by show (0 : Int) < 2147483647; decide), ?_⟩
          refine ⟨_, rfl, .inl ⟨rfl, _, SqL.of hL⟩, _, rfl, _, _, rfl, rfl, ⟨by decide, by decide⟩, _, _, rfl, rfl, (by show (0 : Int) < 1000; decide), p, _, _, rfl, rfl, hL, ?_, ?_⟩
          · rw [List.length_map]
            exact Nat.lt_of_le_of_lt (by omega : ts.length ≤ 4000) (by decide)
          · refine ⟨_, _, ts ++ [((v * 48271 + 69621 * (0 + (i : Int) + 1) + 7 * (0 + (j : Int))) % 2147483647 * 16807 % 2147483647 / 1000) % 1000], rfl, Same.put eS hp, ?_, dg.snoc (mod1000 _).1 (mod1000 _).2, ?_⟩
            · rw [upd_same, snoc_int]
            · rw [List.length_append, List.length_singleton]
              omega
        · rintro σ H2 ⟨v, x4, ts, rfl, eS, hL, dg, hl⟩
          exact ⟨_, _, _, ts, rfl, eS, hL, dg, by simp at hl; omega⟩
    · rintro σ H' ⟨x2, x3, x4, ts, rfl, eS, hL, dg, hl⟩
      refine ⟨_, rfl, q H' p ts eS hp hL dg ?_⟩
      omega
end

def tsAt (ts : List Int) (k : Int) : Int := ts[k.toNat]?.getD 0
theorem tsAt_dig {ts : List Int} (dg : Dig ts) (k : Int) : 0 ≤ tsAt ts k ∧ tsAt ts k < 1000 := by
  unfold tsAt
  cases e : ts[k.toNat]? with
  | none => exact ⟨by decide, by decide⟩
  | some t => exact dg t (mem_of_get e)
def spAt8 (K : PySem.W.Frag) : Sp := fun vs H Q _ => ∃ (t : Addr) (ts : List Int) (k : Int), vs = [.ref t, .int k] ∧ SqL K H t (ts.map V.int) ∧ 0 ≤ k ∧ Q (.int (tsAt ts k)) H
section
variable {P : Program} {w : World} {K : PySem.W.Frag} {mg : Str → Option Value} {base : Heap} {a : Ad}
theorem ok__law_at (T : Txt w K mg a) : FnOk P w K mg base CX0 1 a.f__law_at a.d__law_at ["tape", "k"] (spAt8 K) := by
  refine T.F__law_at.ok sc__law_at (fun vs H Q E h => ?_) (fun cdv A outer s H vs Q E hr h => ?_)
  · obtain ⟨t, ts, k, rfl, _⟩ := h
    rfl
  · obtain ⟨t, ts, k, rfl, hS, hk, q⟩ := h
    refine ⟨_, (pss_cons (ps_if (pt_cmpR (op_lt) (pv 1) (pe_callB call_len_seq (by rfl) T.b_len (by decide +kernel) (pa_cons (pv 0) pa_nil)) (nomark _)) (pss_one (ps_ret (pe_ix ix_list (pv 0) (pv 1) (fun _ _ => rfl)))) pss_nil)
    (pss_one (ps_ret pe_int))), ?_⟩
    refine ⟨_, rfl, _, rfl, t, _, rfl, .inl hS, _, _, rfl, rfl, _, rfl, ?_⟩
    refine ite2 (fun c => ?_) (fun c => ?_)
    · have hk2 : k.toNat < ts.length := by
        rw [List.length_map] at c
        have c2 := of_decide_eq_true c
        omega
      have e : tsAt ts k = ts[k.toNat] := by
        unfold tsAt
        rw [List.getElem?_eq_getElem hk2]
        rfl
      rw [e] at q
      exact ⟨_, rfl, _, rfl, t, _, _, .int ts[k.toNat], rfl, rfl, hS, at_of (j := k.toNat) (by omega) (by rw [List.getElem?_map, List.getElem?_eq_getElem hk2]; rfl), q⟩
    · have hk2 : ¬ k.toNat < ts.length := fun z => c (decide_eq_true (by rw [List.length_map]; omega))
      have e : tsAt ts k = 0 := by
        unfold tsAt
        rw [List.getElem?_eq_none (by omega)]
        rfl
      rw [e] at q
      exact q
theorem ok__law_word (T : Txt w K mg a) : FnOk P w K mg base CX0 1 a.f__law_word a.d__law_word ["number"] (spWordL K) := by
  refine T.F__law_word.ok sc__law_word (fun vs H Q E h => ?_) (fun cdv A outer s H vs Q E hr h => ?_)
  · obtain ⟨n, rfl, _⟩ := h
    rfl
  · obtain ⟨n, rfl, n0, q⟩ := h
    refine ⟨_, (pss_one (ps_ret (pe_ix ix_list (pe_lst (pa_cons (pe_tup (pa_cons pe_str (pa_cons (pe_op op_mod (pv 0) pe_int) (pa_cons pe_bl pa_nil)))) (pa_cons (pe_tup (pa_cons pe_str (pa_cons (pe_op op_mod (pv 0) pe_int) (pa_cons pe_bl pa_nil)))) (pa_cons pe_non (pa_cons (pe_tup (pa_cons pe_str (pa_cons pe_int pa_nil))) pa_nil))))) (pe_op op_mod (pe_op op_fdiv (pv 0) pe_int) pe_int) (fun _ _ => rfl)))), ?_⟩
    have m0 := Int.emod_nonneg n (by decide : (4 : Int) ≠ 0)
    have m1 := Int.emod_lt_of_pos n (by decide : (0 : Int) < 4)
    have r0 := Int.emod_nonneg (n / 4) (by decide : (4 : Int) ≠ 0)
    have r1 := Int.emod_lt_of_pos (n / 4) (by decide : (0 : Int) < 4)
    refine ⟨_, rfl, _, _, rfl, rfl, (by show (0 : Int) < 4; decide), (by show 3 ≤ sizeLine; decide), fun t1 h1 => ?_⟩
    refine ⟨_, rfl, _, _, rfl, rfl, (by show (0 : Int) < 4; decide), (by show 3 ≤ sizeLine; decide), fun t2 h2 => ⟨(by show 2 ≤ sizeLine; decide), fun t3 h3 => ⟨(by show 4 ≤ sizeLine; decide), fun L hL => ?_⟩⟩⟩
    have g1 := Same.new (o := .lst [.ref t1, .ref t2, .non, .ref t3]) hL
    have g2 := (Same.new (o := .tup [.str "swap", .int 1]) h3).trans g1
    have g3 := (Same.new (o := .tup [.str "frame", .int (n % 4), .bl false]) h2).trans g2
    have g4 := (Same.new (o := .tup [.str "frame", .int (n % 4), .bl true]) h1).trans g3
    refine ⟨_, rfl, _, _, rfl, rfl, ⟨by decide, by decide⟩, _, _, rfl, rfl, (by show (0 : Int) < 4; decide), ?_⟩
    obtain ⟨j, hj, ej⟩ : ∃ j : Nat, j ≤ 3 ∧ n / 4 % 4 = (j : Int) := ⟨(n / 4 % 4).toNat, by omega, by omega⟩
    have okf : ∀ b, wOk 4 (.frame (n % 4) b) := fun b g b2 e => by
      cases e
      exact ⟨m0, m1⟩
    rcases (by omega : j = 0 ∨ j = 1 ∨ j = 2 ∨ j = 3) with rfl | rfl | rfl | rfl
    · exact ⟨L, _, _, _, rfl, rfl, SqL.of upd_same, at_of (j := 0) ej rfl, q _ _ (.frame (n % 4) true) g4 (.tup (SqT.of (g3 _ _ upd_same)) (.cons (.str _) (.cons (.int _) (.cons (.bl _) .nil)))) (okf _)⟩
    · exact ⟨L, _, _, _, rfl, rfl, SqL.of upd_same, at_of (j := 1) ej rfl, q _ _ (.frame (n % 4) false) g4 (.tup (SqT.of (g2 _ _ upd_same)) (.cons (.str _) (.cons (.int _) (.cons (.bl _) .nil)))) (okf _)⟩
    · exact ⟨L, _, _, _, rfl, rfl, SqL.of upd_same, at_of (j := 2) ej rfl, q _ _ .non g4 .non (fun g b e => by cases e)⟩
    · exact ⟨L, _, _, _, rfl, rfl, SqL.of upd_same, at_of (j := 3) ej rfl, q _ _ (.swap 1) g4 (.tup (SqT.of (g1 _ _ upd_same)) (.cons (.str _) (.cons (.int _) .nil))) (fun g b e => by cases e)⟩
theorem ok__law_other (T : Txt w K mg a) : FnOk P w K mg base CX0 10 a.f__law_other a.d__law_other ["memory", "p", "number"] (spOther K ⟨a.C_Memory, a.C_Sizes, a.C_Buffer, a.C_Box⟩) := by
  refine T.F__law_other.ok sc__law_other (fun vs H Q E h => ?_) (fun cdv A outer s H vs Q E hr h => ?_)
  · obtain ⟨x, s, p, n, rfl, _⟩ := h
    rfl
  · obtain ⟨x, s, p, n, rfl, hM, hG, hp, lim, n0, q⟩ := h
    refine ⟨_, (pss_cons (ps_set (i := 3) sc__law_other.nd rfl (Or.inl rfl) (pe_op op_mod (pv 2) pe_int))
    (pss_one (ps_if (pt_cmpR (op_lt) (pv 3) pe_int (nomark _)) (pss_one (ps_expr (pe_meth (pv 0) T.c_Memory T.M_Memory_access (ok_Memory_access T) (hr.mono (by decide)) T.B_Memory_access .nil passL (pa_cons (pv 1) (pa_cons (pe_tup (pa_cons pe_str (pa_cons (pe_op op_mod (pe_op op_fdiv (pv 2) pe_int) pe_int) (pa_cons (pe_op op_mod (pe_op op_fdiv (pv 2) pe_int) pe_int) pa_nil)))) pa_nil))))) (pss_one (ps_if (pt_cmpR (op_eq) (pv 3) pe_int (nomark _)) (pss_one (ps_expr (pe_meth (pv 0) T.c_Memory T.M_Memory_access (ok_Memory_access T) (hr.mono (by decide)) T.B_Memory_access .nil passL (pa_cons (pv 1) (pa_cons (pe_tup (pa_cons pe_str pa_nil)) pa_nil))))) pss_nil))))), ?_⟩
    have okP := okSz_at hM.okS
    refine ⟨_, rfl, _, _, rfl, rfl, (by show (0 : Int) < 5; decide), _, rfl, _, _, rfl, rfl, _, rfl, ite2 (fun c => ?_) (fun c => ⟨_, rfl, rfl, _, rfl, ite2 (fun c2 => ?_) (fun c2 => ?_)⟩)⟩
    · refine ⟨_, rfl, x.m, x.dx, _, rfl, hM.ins, rfl, _, rfl, _, rfl, _, _, rfl, rfl, ⟨by decide, by decide⟩, _, _, rfl, rfl, (by show (0 : Int) < 2; decide), _, rfl, _, _, rfl, rfl, ⟨by decide, by decide⟩, _, _, rfl, rfl, (by show (0 : Int) < 4; decide), (by show 3 ≤ sizeLine; decide), fun t ht => ?_⟩
      have i : inS (n / 5 % 2) (n / 10 % 4) := ⟨⟨by omega, by omega⟩, by omega, by omega⟩
      obtain ⟨wd, ew, _⟩ := hG.wd _ _ i
      have e1 := Same.new (o := .tup [.str "walk", .int (n / 5 % 2), .int (n / 10 % 4)]) ht
      exact ⟨x, s, p, _, .walk (n / 5 % 2) (n / 10 % 4), rfl, hM.same e1, hG.tok, hp, .tup (SqT.of upd_same) (.cons (.str _) (.cons (.int _) (.cons (.int _) .nil))), ⟨i, wd, ew⟩, lim, fun H1 v t2 fr hM1 _ _ => q _ _ ((Fr.same hM e1).trans fr) hM1 (.inl ⟨_, _, i, rfl⟩)⟩
    · refine ⟨_, rfl, x.m, x.dx, _, rfl, hM.ins, rfl, _, rfl, (by show 1 ≤ sizeLine; decide), fun t ht => ?_⟩
      have e1 := Same.new (o := .tup [.str "take"]) ht
      exact ⟨x, s, p, _, .take, rfl, hM.same e1, hG.tok, hp, .tup (SqT.of upd_same) (.cons (.str _) .nil), True.intro, lim, fun H1 v t2 fr hM1 _ _ => q _ _ ((Fr.same hM e1).trans fr) hM1 (.inr (.inl rfl))⟩
    · exact q _ _ (Fr.refl x H) hM (.inr (.inr rfl))
end

section
variable {P : Program} {w : World} {K : PySem.W.Frag} {mg : Str → Option Value} {base : Heap} {a : Ad}
def pk (P : Int) (ts : List Int) (pl : Int) (j : Nat) : Int := (tsAt ts (pl + (j : Int) % 40) + (j : Int) / 40) % P
structure RS (K : PySem.W.Frag) (C4 : Cl4) (C : Cl3) (Ci : Addr) (H H' : Hp) (x : MX) (y : Stk) (i : Iv.Iv) (lv wv : V) (L : Lt) (M : Nat) (ts : List Int) (pl : Int) (n0 : Nat) (k : Nat) (s : Ts) (v : IvS) (made : Nat) : Prop where
  mem : MemAt K C4 H' x s.ms
  ri : RI x s v L M made
  stk : StkAt C H' y [.ref i.q] wv
  inv : InvAt K Ci H' x.z i lv v
  oL : Off H' x y.l
  oI : Off H' x i.os
  fr : FrB [y.q, y.l, i.q] x H H'
  kt : KT H H'
  n : s.n ≤ n0 + 2 * k
  a1 : ∀ j : Nat, j < k → pk x.p ts pl j = 0 → 1 ≤ v.sent
  a2 : ∀ j0 j1 : Nat, j0 < j1 → j1 < k → pk x.p ts pl j0 = 0 → pk x.p ts pl j1 = 0 → M ≤ v.sent
  a3 : ∀ j : Nat, 100 < j → j < k → j ≤ 200 → ∀ q : Nat, pk x.p ts pl j = (q : Int) → 1 ≤ q → q ≤ M → Taken x.p s q L
  a4 : min M ((k + 2) / 3 - 67) ≤ v.ans
  a5 : M = 0 → k ≤ 201
  ne : M ≠ 0 → ivR v ≠ none
theorem tIf_of {c : TT} {t u : TS} {D : Ends} {σ : L2.St} {H : Hp} {Z : Prop} (ht : ∀ Q : Bool → Hp → Prop, (Z → Q true H) → (¬ Z → Q false H) → c σ H Q) (hT : Z → t D σ H) (hF : ¬ Z → u D σ H) : tIfS c t u D σ H :=
  ht _ (fun z => iteT (hT z)) (fun z => iteF (hF z))
theorem pk_at (P : Int) (ts : List Int) (pl : Int) (c r : Nat) (hr : r < 40) : pk P ts pl (40 * c + r) = (tsAt ts (pl + (r : Int)) + (c : Int)) % P := by
  unfold pk
  have e1 : ((40 * c + r : Nat) : Int) % 40 = (r : Int) := by omega
  have e2 : ((40 * c + r : Nat) : Int) / 40 = (c : Int) := by omega
  rw [e1, e2]
theorem pk_hit (P : Int) (ts : List Int) (pl : Int) (p1 : 1 ≤ P) (p3 : P ≤ 3) (c0 r : Nat) (hr : r < 40) (q : Nat) (hq : (q : Int) < P) : ∃ d : Nat, d ≤ 2 ∧ pk P ts pl (40 * (c0 + d) + r) = (q : Int) := by
  refine ⟨(((q : Int) - tsAt ts (pl + (r : Int)) - (c0 : Int)) % P).toNat, ?_, ?_⟩
  · rcases (by omega : P = 1 ∨ P = 2 ∨ P = 3) with rfl | rfl | rfl <;> omega
  · rw [pk_at _ _ _ _ _ hr]
    generalize tsAt ts (pl + (r : Int)) = u
    rcases (by omega : P = 1 ∨ P = 2 ∨ P = 3) with rfl | rfl | rfl <;> omega
theorem RS.sentM {K : PySem.W.Frag} {C4 : Cl4} {C : Cl3} {Ci : Addr} {H H' : Hp} {x : MX} {y : Stk} {i : Iv.Iv} {lv wv : V} {L : Lt} {M : Nat} {ts : List Int} {pl : Int} {n0 k : Nat} {s : Ts} {v : IvS} {made : Nat} (R : RS K C4 C Ci H H' x y i lv wv L M ts pl n0 k s v made) (hk : 82 ≤ k) : v.sent = M := by
  have p1 := R.ri.good.p1
  have p3 := R.ri.good.p3
  obtain ⟨d, d2, hd⟩ := pk_hit x.p ts pl p1 p3 0 0 (by omega) 0 (by omega)
  obtain ⟨e, e2, he⟩ := pk_hit x.p ts pl p1 p3 0 1 (by omega) 0 (by omega)
  have := R.ri.sent
  have : M ≤ v.sent := by
    rcases (by omega : 40 * (0 + d) + 0 < 40 * (0 + e) + 1 ∨ 40 * (0 + e) + 1 < 40 * (0 + d) + 0) with c | c
    · exact R.a2 _ _ c (by omega) hd he
    · exact R.a2 _ _ c (by omega) he hd
  omega
theorem RS.takenAll {K : PySem.W.Frag} {C4 : Cl4} {C : Cl3} {Ci : Addr} {H H' : Hp} {x : MX} {y : Stk} {i : Iv.Iv} {lv wv : V} {L : Lt} {M : Nat} {ts : List Int} {pl : Int} {n0 k : Nat} {s : Ts} {v : IvS} {made : Nat} (R : RS K C4 C Ci H H' x y i lv wv L M ts pl n0 k s v made) (hk : 201 ≤ k) (q : Nat) (q1 : 1 ≤ q) (qM : q ≤ M) : Taken x.p s q L := by
  have := R.ri.MP
  obtain ⟨d, d2, hd⟩ := pk_hit x.p ts pl R.ri.good.p1 R.ri.good.p3 3 0 (by omega) q (by omega)
  exact R.a3 _ (by omega) (by omega) (by omega) q hd q1 qM
theorem keep_stk {K : PySem.W.Frag} {C4 : Cl4} {C : Cl3} {H H' : Hp} {x : MX} {s : MS} {y : Stk} {m w : V} {iq : Addr} (hM : MemAt K C4 H x s) (hS : StkAt C H y [m] w) (o : Off H x y.l) (kp : Keep [y.q, y.l] H H') (kt : KT H H') : MemAt K C4 H' x s ∧ FrB [y.q, y.l, iq] x H H' := by
  have ap : ∀ c ∈ [y.q, y.l], Sk.Apart H x c := fun c hc => by
    simp only [List.mem_cons, List.not_mem_nil, or_false] at hc
    rcases hc with rfl | rfl
    · exact .inl ⟨_, _, _, _, _, hS.ins, by decide +kernel, by decide +kernel, by decide +kernel, by decide +kernel⟩
    · exact .inr ⟨⟨_, hS.lst⟩, o⟩
  refine ⟨Sk.MemAt.apart hM kt kp ap, fun c u hc fc n => ⟨kp _ _ (fun z => n (by
    simp only [List.mem_cons, List.not_mem_nil, or_false] at z ⊢
    rcases z with z | z
    · exact .inl z
    · exact .inr (.inl z))) hc, fc.mv fun o => Sk.Off.apart o hM kp ap⟩⟩
theorem ok__law_run (T : Txt w K mg a) : FnOk P w K mg base CX0 11 a.f__law_run a.d__law_run ["memory", "stack", "many", "tape", "place"] (spRun K ⟨a.C_Memory, a.C_Sizes, a.C_Buffer, a.C_Box⟩ ⟨a.C_Kernel, a.C_Stack, a.C_Invalidating, a.C_Invalidating⟩ a.C_Invalidating) := by
  refine T.F__law_run.ok sc__law_run (fun vs H Q E h => ?_) (fun cdv A outer s H vs Q E hr h => ?_)
  · obtain ⟨x, s, y, i, lv, v, wv, L, M, tp, ts, pl, rfl, _⟩ := h
    rfl
  · obtain ⟨x, s0, y, i, lv, v0, wv, L, M, tp, ts, pl, rfl, hM0, hR0, hn0, hS0, hI0, oL0, oI0, tp0, oT0, nT, nI, dg, pl0, lim, q⟩ := h
    refine ⟨_, (pss_cons (ps_set (i := 5) sc__law_run.nd rfl (Or.inl rfl) pe_non)
    (pss_cons (ps_set (i := 6) sc__law_run.nd rfl (Or.inl rfl) pe_int)
    (pss_cons (ps_for PassesOwn.never rfl (pi_range1 rfl T.b_range (pa_cons pe_int pa_nil)) (pg_name (i := 7) sc__law_run.nd rfl (Or.inl rfl))
    (pss_cons (ps_set (i := 8) sc__law_run.nd rfl (Or.inl rfl) (pe_op op_add (pe_call (ok__law_at T) (hr.mono (by decide)) rfl T.m__law_at T.F__law_at.kp T.B__law_at .nil pass0 (pa_cons (pv 3) (pa_cons (pe_op op_add (pv 4) (pe_op op_mod (pv 7) pe_int)) pa_nil))) (pe_op op_fdiv (pv 7) pe_int)))
    (pss_cons (ps_set (i := 9) sc__law_run.nd rfl (Or.inl rfl) (pe_op op_mod (pv 8) (pv 2)))
    (pss_one (ps_if (PW.pt (pw_or (pt_cmpR (op_eq) (pv 9) pe_int (nomark _)) (pw_or1 (PW.pt (pw_and (pt_cmpR (op_gt) (pv 7) pe_int (nomark _)) (pw_and1 (pt_cmpR (op_eq) (pe_op op_mod (pv 7) pe_int) pe_int (nomark _)))))))) (pss_cons (ps_set (i := 10) sc__law_run.nd rfl (Or.inl rfl) (pe_meth (pv 1) T.c_Stack T.M_Stack_step (ok_Stack_step T) (hr.mono (by decide)) T.B_Stack_step .nil pass0 (pa_cons (pv 0) (pa_cons pe_int pa_nil))))
    (pss_mid (ps_if (pt_val (pv 10)) (pss_cons (ps_set (i := 6) sc__law_run.nd rfl (Or.inl rfl) (pe_op op_add (pv 6) pe_int))
    (pss_one (ps_set (i := 5) sc__law_run.nd rfl (Or.inl rfl) (pe_fld (pv 0) rfl)))) pss_nil)
    (pss_one (ps_if (pt_val (pe_meth0 (pv 1) T.c_Stack T.M_Stack_ended (ok_Stack_ended T) (hr.mono (by decide)) T.B_Stack_ended .nil pass0)) (pss_one (ps_ret (pe_tup (pa_cons (pv 5) (pa_cons (pv 6) pa_nil))))) pss_nil)))) (pss_cons (ps_expr (pe_call (ok__law_other T) (hr.mono (by decide)) rfl T.m__law_other T.F__law_other.kp T.B__law_other .nil pass0 (pa_cons (pv 0) (pa_cons (pv 9) (pa_cons (pe_op op_fdiv (pv 8) (pv 2)) pa_nil)))))
    (pss_one (ps_if (pt_cmpR (op_gt) (pv 7) pe_int (nomark _)) (pss_one (ps_expr (pe_meth (pv 0) T.c_Memory T.M_Memory_access (ok_Memory_access T) (hr.mono (by decide)) T.B_Memory_access .nil passL (pa_cons (pv 9) (pa_cons (pe_tup (pa_cons pe_str pa_nil)) pa_nil))))) pss_nil))))))))
    (pss_one (ps_ret (pe_tup (pa_cons (pv 5) (pa_cons (pe_un un_neg pe_int) pa_nil)))))))), ?_⟩
    refine ⟨400, rfl, by decide, by decide, for_range (lo := 0) (n := (400 : Int).toNat)
      (fun k σ H' => ∃ (s : Ts) (v : IvS) (made : Nat) (x7 x8 x9 x10 : Option V), σ = [some (.ref x.m), some (.ref y.q), some (.int x.p), some (.ref tp), some (.int pl), some (natV v.num), some (.int (made : Int)), x7, x8, x9, x10] ∧
        RS K ⟨a.C_Memory, a.C_Sizes, a.C_Buffer, a.C_Box⟩ ⟨a.C_Kernel, a.C_Stack, a.C_Invalidating, a.C_Invalidating⟩ a.C_Invalidating H H' x y i lv wv L M ts pl s0.n k s v made)
      ⟨s0, v0, 0, none, none, none, none, by rw [hn0]; rfl, hM0, hR0, hS0, hI0, oL0, oI0, FrB.refl _ _ _, KT.refl H, Nat.le_refl _, fun j h => absurd h (Nat.not_lt_zero _), fun _ _ _ h => absurd h (Nat.not_lt_zero _), fun _ _ h => absurd h (Nat.not_lt_zero _), (by show min M 0 ≤ _; omega), (fun _ => by omega), fun h e => by
        have := hR0.none e
        have := hR0.ma
        omega⟩ ?_ ?_⟩
    · rintro k σ H' hk ⟨s, v, made, x7, x8, x9, x10, rfl, R⟩
      have hk4 : k < 400 := hk
      have p1 := R.ri.good.p1
      have p3 := R.ri.good.p3
      obtain ⟨tpH, oT⟩ := R.fr.lst tp0 oT0 nT
      have num0 : (0 : Int) + (k : Int) = (k : Int) := Int.zero_add _
      rw [num0]
      have hnN : 0 ≤ tsAt ts (pl + (k : Int) % 40) + (k : Int) / 40 := by have := (tsAt_dig dg (pl + (k : Int) % 40)).1; omega
      refine ⟨_, rfl, _, rfl, _, rfl, _, _, rfl, rfl, (by show (0 : Int) < 40; decide), _, _, rfl, rfl, tp, ts, _, rfl, SqL.of tpH, (by omega), _, rfl, _, _, rfl, rfl, ⟨by decide, by decide⟩, _, _, rfl, rfl, ?_⟩
      refine ⟨_, rfl, _, rfl, _, _, rfl, rfl, (by show (0 : Int) < x.p; omega), ?_⟩
      have ep : pk x.p ts pl k = (tsAt ts (pl + (k : Int) % 40) + (k : Int) / 40) % x.p := rfl
      dsimp only
      rw [← ep]
      obtain ⟨num, enum⟩ : ∃ num, num = tsAt ts (pl + (k : Int) % 40) + (k : Int) / 40 := ⟨_, rfl⟩
      rw [← enum] at hnN ep ⊢
      have pk0 : 0 ≤ pk x.p ts pl k := by rw [ep]; exact Int.emod_nonneg _ (by omega)
      have pkP : pk x.p ts pl k < x.p := by rw [ep]; exact Int.emod_lt_of_pos _ (by omega)
      have okS := okSz_at R.mem.okS
      have lmn : s.n ≤ 100000 := by have := R.n; omega
      refine tIf_of (Z := pk x.p ts pl k = 0 ∨ (200 < k ∧ k % 3 = 0)) (fun Q yes no => ?_) (fun z => ?_) (fun z => ?_)
      · refine ⟨_, rfl, rfl, _, rfl, ite2 (fun c => yes ?_) (fun c => ⟨_, rfl, _, _, rfl, rfl, _, rfl, ite2 (fun c2 => ⟨_, rfl, _, _, rfl, rfl, (by show (0 : Int) < 3; decide), rfl, _, rfl, ?_⟩) (fun c2 => no ?_)⟩)⟩
        · left
          simpa using c
        · have c2 := of_decide_eq_true c2
          have c1 : ¬ pk x.p ts pl k = 0 := fun e => c (by rw [e]; simp)
          by_cases c3 : (k : Int) % 3 = 0
          · have e3 : decide (V.int ((k : Int) % 3) = V.int 0) = true := decide_eq_true (by rw [c3])
            dsimp only
            rw [e3]
            exact yes (.inr ⟨by omega, by omega⟩)
          · have e3 : decide (V.int ((k : Int) % 3) = V.int 0) = false := decide_eq_false (fun e => c3 (by injection e))
            dsimp only
            rw [e3]
            exact no (fun z => by rcases z with z | z; exact c1 z; omega)
        · have c2 : ¬ (200 : Int) < (k : Int) := fun h => c2 (decide_eq_true h)
          have c1 : ¬ pk x.p ts pl k = 0 := fun e => c (by rw [e]; simp)
          exact fun z => by rcases z with z | z; exact c1 z; omega
      · refine ⟨_, rfl, y.q, y.dx, _, rfl, R.stk.ins, rfl, _, rfl, y, i, lv, v, wv, x, s, rfl, R.mem, R.ri.good.tok, (fun r er => R.ri.rok er), R.stk, R.inv, R.oL, R.oI, lmn, fun er H1 kp kt1 hS1 => ?_, fun r er H1 fr1 kt1 hM1 => ?_⟩
        · obtain ⟨hM1, fb1⟩ := keep_stk (iq := i.q) R.mem R.stk R.oL kp kt1
          refine ⟨fun σ2 H2 => H2 = H1 ∧ ∃ x7 x8 x9 x10, σ2 = [some (.ref x.m), some (.ref y.q), some (.int x.p), some (.ref tp), some (.int pl), some (natV v.num), some (.int (made : Int)), x7, x8, x9, x10], ⟨_, rfl, _, rfl, iteF ⟨rfl, _, _, _, _, rfl⟩⟩, ?_⟩
          rintro σ2 H2 ⟨rfl, x7, x8, x9, x10, rfl⟩
          refine ⟨_, rfl, y.q, y.dx, _, rfl, hS1.ins, rfl, y, [], _, rfl, hS1, .inl ⟨rfl, _, rfl, iteT ⟨_, rfl, _, rfl, (by show 2 ≤ sizeLine; decide), fun t ht => ?_⟩⟩⟩
          have e1 := Same.new (o := .tup [natV v.num, .int (made : Int)]) ht
          exact q _ s v made t ((R.fr.trans fb1).trans (FrB.of (Fr.same hM1 e1))) ((R.kt.trans kt1).trans (KT.of e1)) (hM1.same e1) R.ri er (by have := R.n; omega) ⟨e1 _ _ hS1.ins, e1 _ _ hS1.lst⟩ upd_same
        · obtain ⟨R2, en, st1, st2, st3, st4⟩ := R.ri.step er
          have M0 := (R.ri.req er).1

          have en2 : natV (ivA v (runR x.p s 0 r).val (s.n + 1)).num = .int ((s.n + 1 : Nat) : Int) := by rw [en]; rfl
          refine ⟨fun ne hS1 hI1 oL1 oI1 => ?_, fun e hS1 => ?_⟩
          · refine ⟨fun σ2 H2 => H2 = H1 ∧ ∃ x7 x8 x9 x10, σ2 = [some (.ref x.m), some (.ref y.q), some (.int x.p), some (.ref tp), some (.int pl), some (natV (ivA v (runR x.p s 0 r).val (s.n + 1)).num), some (.int ((made + 1 : Nat) : Int)), x7, x8, x9, x10], ⟨_, rfl, _, rfl, iteT ⟨_, rfl, _, _, rfl, rfl, _, rfl, x.m, _, x.dx, _, _, rfl, hM1.ins, T.c_Memory, T.n_Memory_count, rfl, rfl, _, _, _, _, by rw [en2]; rfl⟩⟩, ?_⟩
            rintro σ2 H2 ⟨rfl, x7, x8, x9, x10, rfl⟩
            refine ⟨_, rfl, y.q, y.dx, _, rfl, hS1.ins, rfl, y, _, _, rfl, hS1, .inr ⟨_, rfl, _, rfl, iteF ?_⟩⟩
            refine ⟨tnext x.p s 0 r, _, made + 1, x7, x8, x9, x10, rfl, hM1, R2, hS1, hI1, oL1, oI1, R.fr.trans fr1, R.kt.trans kt1, (by have := R.n; show s.n + 1 ≤ _; omega), fun j _ _ => (by omega), fun j0 j1 h1 h2 h3 h4 => ?_, fun j h1 h2 h3 qq h4 h5 h6 => ?_, ?_, fun z0 => absurd z0 M0, fun _ => ne⟩
            · by_cases cj : j1 < k
              · have := R.a2 j0 j1 h1 cj h3 h4
                omega
              · have := R.a1 j0 (by omega) h3
                have := R.ri.M2
                omega
            · by_cases cj : j < k
              · have := R.sentM (by omega)
                exact st4 qq (R.a3 j h1 cj h3 qq h4 h5 h6) (by omega)
              · have ej : j = k := by omega
                rw [ej] at h4 h3
                rcases z with z | z <;> omega
            · have a4 := R.a4
              by_cases c : 200 < k ∧ k % 3 = 0
              · have := st3 (R.sentM (by omega)) (fun p h1 h2 => R.takenAll (by omega) p h1 h2)
                omega
              · omega
          · refine ⟨fun σ2 H2 => H2 = H1 ∧ ∃ x7 x8 x9 x10, σ2 = [some (.ref x.m), some (.ref y.q), some (.int x.p), some (.ref tp), some (.int pl), some (natV (ivA v (runR x.p s 0 r).val (s.n + 1)).num), some (.int ((made + 1 : Nat) : Int)), x7, x8, x9, x10], ⟨_, rfl, _, rfl, iteT ⟨_, rfl, _, _, rfl, rfl, _, rfl, x.m, _, x.dx, _, _, rfl, hM1.ins, T.c_Memory, T.n_Memory_count, rfl, rfl, _, _, _, _, by rw [en2]; rfl⟩⟩, ?_⟩
            rintro σ2 H2 ⟨rfl, x7, x8, x9, x10, rfl⟩
            refine ⟨_, rfl, y.q, y.dx, _, rfl, hS1.ins, rfl, y, [], _, rfl, hS1, .inl ⟨rfl, _, rfl, iteT ⟨_, rfl, _, rfl, (by show 2 ≤ sizeLine; decide), fun t ht => ?_⟩⟩⟩
            have e1 := Same.new (o := .tup [natV (ivA v (runR x.p s 0 r).val (s.n + 1)).num, .int ((made + 1 : Nat) : Int)]) ht
            exact q _ (tnext x.p s 0 r) _ (made + 1) t ((R.fr.trans fr1).trans (FrB.of (Fr.same hM1 e1))) ((R.kt.trans kt1).trans (KT.of e1)) (hM1.same e1) R2 e (by have := R.n; show s.n + 1 ≤ _; omega) ⟨e1 _ _ hS1.ins, e1 _ _ hS1.lst⟩ upd_same
      · have zk : pk x.p ts pl k ≠ 0 := fun h => z (.inl h)
        obtain ⟨pn, epn⟩ : ∃ pn : Nat, pk x.p ts pl k = (pn : Int) := ⟨(pk x.p ts pl k).toNat, by omega⟩
        have pn1 : 1 ≤ pn := by omega
        have pnP : (pn : Int) < x.p := by omega
        have sn : ("_machines" : Str) ≠ "sizes" ∧ ("_machines" : Str) ≠ "processors" ∧ ("_machines" : Str) ≠ "_entries" ∧ ("_machines" : Str) ≠ "_letters" := ⟨by decide +kernel, by decide +kernel, by decide +kernel, by decide +kernel⟩
        have nxt : ∀ (H2 : Hp) (s2 : Ts), Fr x H' H2 → MemAt K ⟨a.C_Memory, a.C_Sizes, a.C_Buffer, a.C_Box⟩ H2 x s2.ms → RI x s2 v L M made → (∀ q : Nat, Taken x.p s q L → Taken x.p s2 q L) → (100 < k → pn ≤ v.sent → Taken x.p s2 pn L) → s2.n ≤ s.n + 2 →
            RS K ⟨a.C_Memory, a.C_Sizes, a.C_Buffer, a.C_Box⟩ ⟨a.C_Kernel, a.C_Stack, a.C_Invalidating, a.C_Invalidating⟩ a.C_Invalidating H H2 x y i lv wv L M ts pl s0.n (k + 1) s2 v made := fun H2 s2 fr hM2 r2 tk2 tkp n2 =>
          { mem := hM2
            ri := r2
            stk := ⟨(fr _ _ R.stk.ins ⟨sn.1, sn.2.2.1⟩).1, (fr.lst R.stk.lst R.oL).1⟩
            inv := R.inv.fr fr R.oI
            oL := (fr.lst R.stk.lst R.oL).2
            oI := (fr.lst R.inv.os R.oI).2
            fr := R.fr.trans (FrB.of fr)
            kt := R.kt.trans fr.kt
            n := by have := R.n; omega
            a1 := fun j h1 h2 => R.a1 j (by
              by_cases e : j = k
              · rw [e] at h2; exact absurd h2 zk
              · omega) h2
            a2 := fun j0 j1 h0 h1 h2 h3 => R.a2 j0 j1 h0 (by
              by_cases e : j1 = k
              · rw [e] at h3; exact absurd h3 zk
              · omega) h2 h3
            a3 := fun j h1 h2 h3 qq h4 h5 h6 => by
              by_cases e : j = k
              · rw [e] at h4
                have : qq = pn := by omega
                rw [this]
                have := R.sentM (by omega)
                exact tkp (by omega) (by omega)
              · exact tk2 qq (R.a3 j h1 (by omega) h3 qq h4 h5 h6)
            a4 := by
              have := R.a4
              by_cases c : 200 < k
              · have c3 : k % 3 ≠ 0 := fun h => z (.inr ⟨c, h⟩)
                omega
              · omega
            a5 := fun m0 => by
              have := R.a5 m0
              by_cases c : k = 201
              · exact absurd (.inr ⟨by omega, by omega⟩) z
              · omega
            ne := R.ne }
        refine ⟨_, rfl, _, rfl, _, rfl, _, rfl, _, _, rfl, rfl, ⟨by omega, by omega⟩, x, s, pn, num / x.p, (by rw [epn]; try rfl), R.mem, R.ri.good, pnP, lmn, Int.ediv_nonneg hnN (by omega), fun H1 s1 fr1 hM1 oth => ?_⟩
        obtain ⟨r1, tk1⟩ := R.ri.oth pn1 pnP oth
        have n1 := oth_n oth
        refine ⟨_, rfl, _, _, rfl, rfl, _, rfl, ite2 (fun c => ?_) (fun c => ?_)⟩
        · refine ⟨_, rfl, x.m, x.dx, _, rfl, hM1.ins, rfl, _, rfl, (by show 1 ≤ sizeLine; decide), fun t ht => ?_⟩
          have e1 := Same.new (o := .tup [.str "take"]) ht
          refine ⟨x, s1, pn, _, .take, (by rw [epn]; try rfl), hM1.same e1, r1.good.tok, pnP, .tup (SqT.of upd_same) (.cons (.str _) .nil), True.intro, by have := R.n; omega, fun H2 v2 t2 fr2 hM2 _ _ => ?_⟩
          obtain ⟨r2, tk2, tk3⟩ := r1.take pn1 pnP
          exact ⟨_, v, made, _, _, _, _, rfl, nxt H2 _ ((fr1.trans (Fr.same hM1 e1)).trans fr2) hM2 r2 (fun q t => tk2 q (tk1 q t)) (fun _ h => tk3 h) (by show s1.n + 1 ≤ _; omega)⟩
        · exact ⟨s1, v, made, _, _, _, _, rfl, nxt H1 s1 fr1 hM1 r1 tk1 (fun h _ => absurd (decide_eq_true (by show (100 : Int) < (k : Int); omega)) c) (by omega)⟩
    · rintro σ H' ⟨s, v, made, x7, x8, x9, x10, rfl, R⟩
      exfalso
      have s1 := R.sentM (by decide)
      have a4 := R.a4
      have a5 := R.a5
      have ne := R.ne
      have M2 := R.ri.M2
      have hl := R.ri.get
      have ha := R.ri.ans
      have k4 : (400 : Int).toNat = 400 := rfl
      rw [k4] at a4 a5
      by_cases m0 : M = 0
      · have := a5 m0
        omega
      · refine ne m0 ?_
        unfold ivR
        rw [hl, hl, if_neg (by omega), if_neg (by omega)]
        rfl

theorem vok_wd (w : Wd) : Vok (wD w) := by
  have st : ∀ z : Str, PyData.canLay0 (.str z) = true → Sh 4 (.str z) := fun z hz => (sh_str z hz).up (by decide)
  cases w with
  | non => exact ⟨by simp only [wD, noL], sh_none.up (by decide), rfl, fun t ps e => by cases e⟩
  | frame f w => exact ⟨by simp only [wD, noL, noLs, Bool.and_self], sh_tup (sh_c (st _ (by decide +kernel)) (sh_c ((sh_int _).up (by decide)) (sh_c ((sh_bool _).up (by decide)) sh_n))), rfl, fun t ps e => by simp [wD] at e⟩
  | swap n => exact ⟨by simp only [wD, noL, noLs, Bool.and_self], sh_tup (sh_c (st _ (by decide +kernel)) (sh_c ((sh_int _).up (by decide)) sh_n)), rfl, fun t ps e => by simp [wD] at e⟩
  | file => exact ⟨by simp only [wD, noL, noLs, Bool.and_self], sh_tup (sh_c (st _ (by decide +kernel)) (sh_c ((sh_int _).up (by decide)) (sh_c ((sh_int _).up (by decide)) sh_n))), rfl, fun t ps e => by simp [wD] at e⟩
  | held => exact ⟨by simp only [wD, noL, noLs, Bool.and_self], sh_tup (sh_c (st _ (by decide +kernel)) sh_n), rfl, fun t ps e => by simp [wD] at e⟩
theorem ok__law_change (T : Txt w K mg a) : FnOk P w K mg base CX0 11 a.f__law_change a.d__law_change ["memory", "tape", "place"] (spChange K ⟨a.C_Memory, a.C_Sizes, a.C_Buffer, a.C_Box⟩) := by
  refine T.F__law_change.ok sc__law_change (fun vs H Q E h => ?_) (fun cdv A outer s H vs Q E hr h => ?_)
  · obtain ⟨x, s, tk, tp, ts, pl, rfl, _⟩ := h
    rfl
  · obtain ⟨x, s, tk, tp, ts, pl, rfl, hM, hB, tp0, oT, dg, pl0, lim, q⟩ := h
    refine ⟨_, (pss_cons (ps_set (i := 3) sc__law_change.nd rfl (Or.inl rfl) (pe_lst pa_nil))
    (pss_cons (ps_for PassesOwn.never rfl (pi_range1 rfl T.b_range (pa_cons (pe_op op_mod (pe_call (ok__law_at T) (hr.mono (by decide)) rfl T.m__law_at T.F__law_at.kp T.B__law_at .nil pass0 (pa_cons (pv 1) (pa_cons (pv 2) pa_nil))) pe_int) pa_nil)) (pg_name (i := 4) sc__law_change.nd rfl (Or.inl rfl))
    (pss_cons (ps_set (i := 5) sc__law_change.nd rfl (Or.inl rfl) (pe_call (ok__law_at T) (hr.mono (by decide)) rfl T.m__law_at T.F__law_at.kp T.B__law_at .nil pass0 (pa_cons (pv 1) (pa_cons (pe_op op_add (pe_op op_add (pv 2) pe_int) (pv 4)) pa_nil))))
    (pss_cons (ps_set (i := 6) sc__law_change.nd rfl (Or.inl rfl) (pe_tup (pa_cons (pe_op op_mod (pv 5) pe_int) (pa_cons (pe_op op_mod (pe_op op_fdiv (pv 5) pe_int) pe_int) pa_nil))))
    (pss_one (ps_if (pt_cmpR (op_niD (hu65 hr)) (pv 6) (pv 3) rfl) (pss_cons (ps_expr (pe_bm PySem.F.plainAttrs_list PySem.F.slot_list_append PySem.F.type_list_append mt_append (pv 3) (pa_cons (pv 6) pa_nil)))
    (pss_one (ps_expr (pe_meth (pv 0) T.c_Memory T.M_Memory_access (ok_Memory_access T) (hr.mono (by decide)) T.B_Memory_access .nil passL (pa_cons pe_int (pa_cons (pe_tup (pa_cons pe_str (pa_cons (pe_meth (pe_fld (pv 0) rfl) T.c_Sizes T.M_Sizes_word (ok_Sizes_word T) (hr.mono (by decide)) T.B_Sizes_word .nil pass0 (pa_cons (pe_ix ix_tup (pv 6) pe_int (fun _ _ => rfl)) (pa_cons (pe_ix ix_tup (pv 6) pe_int (fun _ _ => rfl)) pa_nil))) (pa_cons (pe_call (ok__law_word T) (hr.mono (by decide)) rfl T.m__law_word T.F__law_word.kp T.B__law_word .nil pass0 (pa_cons (pe_op op_fdiv (pv 5) pe_int) pa_nil)) pa_nil)))) pa_nil)))))) pss_nil)))))
    (pss_one (ps_ret (pv 3))))), ?_⟩
    have okS := okSz_at hM.okS
    have f4 := hB.good.f4
    have p1 := hB.good.p1
    refine ⟨Nat.zero_le _, fun p hp => ?_⟩
    have e0 := Same.new (o := .lst []) hp
    have hM1 := hM.same e0
    have d0 := tsAt_dig dg pl
    have m0 := Int.emod_nonneg (tsAt ts pl) (by decide : (5 : Int) ≠ 0)
    have m1 := Int.emod_lt_of_pos (tsAt ts pl) (by decide : (0 : Int) < 5)
    refine ⟨_, rfl, _, rfl, tp, ts, _, rfl, SqL.of (e0 _ _ tp0), pl0, _, _, rfl, rfl, (by show (0 : Int) < 5; decide), _, rfl, by omega, by omega, for_range (lo := 0) (n := (tsAt ts pl % 5).toNat)
      (fun k σ H' => ∃ (s2 : Ts) (ps : List (Int × Int)) (pv : List V) (x4 x5 x6 : Option V), σ = [some (.ref x.m), some (.ref tp), some (.int pl), some (.ref p), x4, x5, x6] ∧
        Fr x H H' ∧ MemAt K ⟨a.C_Memory, a.C_Sizes, a.C_Buffer, a.C_Box⟩ H' x s2.ms ∧ Bet x s2 tk ∧ s2.n ≤ s.n + k ∧ H' p = some (.lst pv) ∧ Off H' x p ∧ DpAll K H' pv (ps.map pD) ∧ ps.length ≤ k ∧ ∀ q ∈ ps, (0 ≤ q.1 ∧ q.1 < 4) ∧ (0 ≤ q.2 ∧ q.2 < 8))
      ⟨s, [], [], none, none, none, rfl, Fr.same hM e0, hM1, hB, Nat.le_refl _, upd_same, (Off.fresh hM hp).same hM e0, .nil, Nat.le_refl _, fun _ h => absurd h List.not_mem_nil⟩ ?_ ?_⟩
    · rintro k σ H' hk ⟨s2, ps, pv, x4, x5, x6, rfl, fr, hM2, hB2, n2, hp2, oP2, hd2, lp, okp⟩
      have k4 : k < 4 := by omega
      have tp2 := (fr.lst tp0 oT).1
      have hk0 : 0 ≤ pl + 1 + (0 + (k : Int)) := by omega
      refine ⟨_, rfl, _, rfl, _, _, rfl, rfl, _, rfl, _, _, rfl, rfl, tp, ts, _, rfl, SqL.of tp2, hk0, ?_⟩
      have du := tsAt_dig dg (pl + 1 + (0 + (k : Int)))
      dsimp only
      generalize tsAt ts (pl + 1 + (0 + (k : Int))) = u at du ⊢
      refine ⟨_, rfl, _, _, rfl, rfl, (by show (0 : Int) < 2; decide), _, rfl, _, _, rfl, rfl, ⟨by decide, by decide⟩, _, _, rfl, rfl, (by show (0 : Int) < 4; decide), (by show 2 ≤ sizeLine; decide), fun t ht => ?_⟩
      have e1 := Same.new (o := .tup [.int (u % 2), .int (u / 2 % 4)]) ht
      have t1 : upd H' t (.tup [.int (u % 2), .int (u / 2 % 4)]) t = some (.tup [.int (u % 2), .int (u / 2 % 4)]) := upd_same
      have hM3 := hM2.same e1
      have fr3 := fr.trans (Fr.same hM2 e1)
      have hp3 := e1 _ _ hp2
      have oP3 := oP2.same hM2 e1
      have hd3 := dpAll_mono e1 hd2
      generalize upd H' t (.tup [.int (u % 2), .int (u / 2 % 4)]) = G1 at e1 t1 hM3 fr3 hp3 oP3 hd3 ⊢
      have iS : inS (u % 2) (u / 2 % 4) := ⟨⟨by omega, by omega⟩, by omega, by omega⟩
      have lpv : pv.length = ps.length := by rw [dpAll_len hd3, List.length_map]
      have dt1 : Dp K G1 (.ref t) (pD (u % 2, u / 2 % 4)) := .tup (SqT.of t1) (.cons (.int _) (.cons (.int _) .nil))
      refine ⟨_, rfl, _, rfl, pD (u % 2, u / 2 % 4), ps.map pD, dt1, .inl (.lst (SqL.of hp3) hd3), (shP _).ok, (shPs ps).ok, _, rfl, ite2 (fun c => ?_) (fun c => ?_)⟩
      · refine ⟨_, rfl, .inl ⟨rfl, _, SqL.of hp3⟩, _, rfl, p, _, _, rfl, rfl, hp3, (by rw [lpv]; exact Nat.lt_of_le_of_lt (by omega : ps.length ≤ 4) (by decide)), ?_⟩
        have hM4 := Ak.MemAt.aside (ws := pv ++ [.ref t]) hM3 hp3 oP3
        have fr4 : Fr x H (upd G1 p (.lst (pv ++ [.ref t]))) := fun c o hc f => by
          obtain ⟨r1, r2⟩ := fr3 c o hc f
          exact ⟨(upd_ne (ne_of_none hc hp)).trans r1, r2.mv fun o => o.put hM3 hp3⟩
        have kt4 : KT G1 (upd G1 p (.lst (pv ++ [.ref t]))) := KT.lst hp3
        have hp4 : upd G1 p (.lst (pv ++ [.ref t])) p = some (.lst (pv ++ [.ref t])) := upd_same
        have oP4 := oP3.put (u := .lst (pv ++ [.ref t])) hM3 hp3
        have t4 := kt4 _ _ t1 True.intro
        have hd4 : DpAll K (upd G1 p (.lst (pv ++ [.ref t]))) (pv ++ [.ref t]) ((ps ++ [(u % 2, u / 2 % 4)]).map pD) := by
          rw [List.map_append]
          exact dpAll_app (dpAll_keep kt4 (noLs_pairs ps) hd3) (.cons (.tup (SqT.of t4) (.cons (.int _) (.cons (.int _) .nil))) .nil)
        generalize upd G1 p (.lst (pv ++ [.ref t])) = G2 at hM4 fr4 hp4 oP4 t4 hd4 ⊢
        refine ⟨_, rfl, x.m, x.dx, _, rfl, hM4.ins, rfl, _, rfl, x.m, _, x.dx, _, _, rfl, hM4.ins, T.c_Memory, T.n_Memory_sizes, rfl, x.z, x.dz, _, rfl, hM4.sz, rfl, _, rfl, t, _, _, _, rfl, rfl, SqT.of t4, at_of (j := 0) rfl rfl, _, rfl, t, _, _, _, rfl, rfl, SqT.of t4, at_of (j := 1) rfl rfl, x.z, x.dz, x.p, x.f, x.b, _, _, rfl, hM4.sz, ?_⟩
        refine ⟨_, rfl, _, _, rfl, rfl, ⟨by decide, by decide⟩, u / 8, rfl, (by omega), fun G3 v wd e3 hv ok => ⟨(by show 3 ≤ sizeLine; decide), fun t3 ht3 => ?_⟩⟩
        have e4 := e3.trans (Same.new (o := .tup [.str "write", .int (wordC x.p (u % 2) (u / 2 % 4)), v]) ht3)
        have hM5 := hM4.same e4
        have wl := word_lt hB2.good iS
        refine ⟨x, s2, 0, _, .write (wordC x.p (u % 2) (u / 2 % 4)) (wD wd), rfl, hM5, hB2.good.tok, by omega, .tup (SqT.of upd_same) (.cons (.str _) (.cons (.int _) (.cons (dp_mono (Same.new ht3) hv) .nil))), ⟨wl, vok_wd wd⟩, by omega, fun H4 v4 t4 fr5 hM6 _ _ => ?_⟩
        have fr6 := (Fr.same hM4 e4).trans fr5
        refine ⟨_, ps ++ [(u % 2, u / 2 % 4)], pv ++ [.ref t], _, _, _, rfl, fr4.trans fr6, hM6, hB2.write iS (by rw [f4]; exact ok) 0, (by show s2.n + 1 ≤ _; omega), (fr6.lst hp4 oP4).1, (fr6.lst hp4 oP4).2, dpAll_keep fr6.kt (noLs_pairs _) hd4, by rw [List.length_append]; exact Nat.succ_le_succ lp, fun q hq => ?_⟩
        rcases List.mem_append.mp hq with hq | hq
        · exact okp q hq
        · rw [List.mem_singleton.mp hq]
          exact iS
      · exact ⟨s2, ps, pv, _, _, _, rfl, fr3, hM3, hB2, by omega, hp3, oP3, hd3, by omega, okp⟩
    · rintro σ H' ⟨s2, ps, pv, x4, x5, x6, rfl, fr, hM2, hB2, n2, hp2, oP2, hd2, lp, okp⟩
      exact ⟨_, rfl, q _ _ p ps fr hM2 hB2 (by omega) hp ⟨pv, hp2, oP2, hd2⟩ ⟨by omega, okp⟩⟩
theorem eqv_frame (f : Int) (w : Bool) : PyData.eqv (wD (.frame f w)) (wD (.frame f w)) = true := by
  cases w <;> simp [wD, PyData.eqv, PyData.eqvAll]
theorem ok__law_entries (T : Txt w K mg a) : FnOk P w K mg base CX0 11 a.f__law_entries a.d__law_entries ["memory", "many", "pairs"] (spEntries8 K ⟨a.C_Memory, a.C_Sizes, a.C_Buffer, a.C_Box⟩) := by
  refine T.F__law_entries.ok sc__law_entries (fun vs H Q E h => ?_) (fun cdv A outer s H vs Q E hr h => ?_)
  · obtain ⟨x, s, pl, pvs, ps, rfl, _⟩ := h
    rfl
  · obtain ⟨x, s, pl, pvs, ps, rfl, hM, hG, hpl, oP, hps, hx, he, hpo, q⟩ := h
    refine ⟨_, (pss_cons (ps_for PassesOwn.never rfl (pi_range1 rfl T.b_range (pa_cons (pv 1) pa_nil)) (pg_name (i := 3) sc__law_entries.nd rfl (Or.inl rfl))
    (pss_cons (ps_if (pt_cmpR (op_neD hr.units) (pe_meth0 (pe_ix ix_list (pe_fld (pv 0) rfl) (pv 3) (fun _ _ => rfl)) T.c_Box T.M_Box_letters (ok_Box_letters T) (hr.mono (by decide)) T.B_Box_letters .nil pass0) (pe_lst pa_nil) (nomark _)) (pss_one (ps_ret pe_bl)) pss_nil)
    (pss_one (ps_for PassesOwn.never rfl (pi_list (pe_meth0 (pe_ix ix_list (pe_fld (pv 0) rfl) (pv 3) (fun _ _ => rfl)) T.c_Buffer T.M_Buffer_entries (ok_Buffer_entries T) (hr.mono (by decide)) T.B_Buffer_entries .nil pass0)) (pg_name (i := 4) sc__law_entries.nd rfl (Or.inl rfl))
    (pss_one (ps_if (pt_cmpR (op_inD (hu65 hr)) (pe_slice sl_tupA (pv 4) po_none (po_some pe_int)) (pv 2) rfl) (pss_cons (ps_set (i := 5) sc__law_entries.nd rfl (Or.inl rfl) (pe_meth (pv 0) T.c_Memory T.M_Memory_peek (ok_Memory_peek T) (hr.mono (by decide)) T.B_Memory_peek .nil passL (pa_cons (pe_meth (pe_fld (pv 0) rfl) T.c_Sizes T.M_Sizes_word (ok_Sizes_word T) (hr.mono (by decide)) T.B_Sizes_word .nil pass0 (pa_cons (pe_ix ix_tup (pv 4) pe_int (fun _ _ => rfl)) (pa_cons (pe_ix ix_tup (pv 4) pe_int (fun _ _ => rfl)) pa_nil))) pa_nil)))
    (pss_one (ps_if (pt_cmpR (op_neD hr.units) (pv 5) (pe_tup (pa_cons pe_str (pa_cons (pe_ix ix_tup (pv 4) pe_int (fun _ _ => rfl)) (pa_cons (pe_ix ix_tup (pv 4) pe_int (fun _ _ => rfl)) pa_nil)))) (nomark _)) (pss_one (ps_ret pe_bl)) pss_nil))) pss_nil))))))
    (pss_one (ps_ret pe_bl))), ?_⟩
    have okS := okSz_at hM.okS
    have p1 := hG.p1
    refine ⟨_, rfl, _, rfl, (by omega), (by omega), for_range (lo := 0) (n := x.p.toNat)
      (fun k σ H' => ∃ (x3 x4 x5 : Option V), σ = [some (.ref x.m), some (.int x.p), some (.ref pl), x3, x4, x5] ∧ Same H H')
      ⟨none, none, none, rfl, Same.refl H⟩ ?_ ?_⟩
    · rintro k σ H' hk ⟨x3, x4, x5, rfl, eS⟩
      have kP : (k : Int) < x.p := by omega
      have hM1 := hM.same eS
      have num0 : (0 : Int) + (k : Int) = (k : Int) := Int.zero_add _
      rw [num0]
      have hkx : k < s.boxes.length := by have := hG.lx; omega
      have hxl : k < x.xs.length := by have := hM1.lenX.1; omega
      obtain ⟨zv, hX, hXd⟩ := hM1.box k _ _ (List.getElem?_eq_getElem hxl) (boxes_at s hkx)
      rw [hx k kP] at hXd
      have ezv : zv = [] := by
        cases hXd
        rfl
      subst ezv
      refine ⟨_, rfl, x.m, _, x.dx, _, _, rfl, hM1.ins, T.c_Memory, T.n_Memory_boxes, rfl, _, rfl, x.xl, _, _, _, rfl, rfl, SqL.of hM1.xl, at_of (j := k) rfl (by rw [List.getElem?_map, List.getElem?_eq_getElem hxl]; rfl), x.xs[k].1, x.xs[k].2.1, _, rfl, hX.ins, rfl, x.xs[k].1, x.xs[k].2.1, x.xs[k].2.2, _, rfl, hX, fun r hr => ⟨Nat.zero_le _, fun e hee => ?_⟩⟩
      have e1 := (Same.new (o := .lst []) hr).trans (Same.new (o := .lst []) hee)
      refine ⟨.list [], .list [], .lst (SqL.of (Same.new hee _ _ upd_same)) .nil, .lst (SqL.of upd_same) .nil, rfl, rfl, _, rfl, iteF ?_⟩
      have e2 := eS.trans e1
      have hM2 := hM.same e2
      generalize upd (upd H' r (.lst [])) e (.lst []) = H2 at e2 hM2 ⊢
      obtain ⟨yb, l0, zs, hb, hbv, hBf, hE, hzs, lz, hpb⟩ := st_buf hM2 kP
      refine ⟨_, rfl, x.m, _, x.dx, _, _, rfl, hM2.ins, T.c_Memory, T.n_Memory_buffers, rfl, _, rfl, x.bl, _, _, _, rfl, rfl, SqL.of hM2.bl, at_of (j := k) rfl hbv, yb.1, yb.2, _, rfl, hBf.ins, rfl, yb.1, yb.2, l0, _, rfl, hBf, fun r2 hr2 => ?_⟩
      have e3 := e2.trans (Same.new (o := .lst (zs.map aV)) hr2)
      have hr3 : upd H2 r2 (.lst (zs.map aV)) r2 = some (.lst (zs.map aV)) := upd_same
      have hE3 : EnAll (upd H2 r2 (.lst (zs.map aV))) zs := fun z hz => Same.new hr2 _ _ (hE z hz)
      generalize upd H2 r2 (.lst (zs.map aV)) = H3 at e3 hr3 hE3 ⊢
      refine ⟨r2, rfl, ⟨_, SqL.of hr3⟩, for_list (K := K) (a := r2) (xs := zs.map aV)
        (fun i σ H' => ∃ (x4 x5 : Option V), σ = [some (.ref x.m), some (.int x.p), some (.ref pl), some (.int (k : Int)), x4, x5] ∧ Same H3 H')
        ⟨_, _, rfl, Same.refl H3⟩ (fun i σ H' _ ⟨_, _, _, e⟩ => SqL.of (e _ _ hr3)) ?_ ?_⟩
      · rintro i v σ H4 hv ⟨y4, y5, rfl, eS4⟩
        obtain ⟨z, hz, rfl⟩ := map_get hv
        have e4 := e3.trans eS4
        have hzz := eS4 _ _ (hE3 z (mem_of_get hz))
        refine ⟨_, rfl, 2, rfl, z.1, eV z.2, rfl, SqT.of hzz, (fun h => absurd h.2 (by show ¬ (2 : Nat) = 4; decide)), fun _ t ht => ?_⟩
        have e5 := Same.new (o := .tup [.int z.2.s, .int z.2.p]) ht
        have e6 := e4.trans e5
        have hM5 := hM.same e6
        have hz5 := e5 _ _ hzz
        refine ⟨_, rfl, pD (z.2.s, z.2.p), ps.map pD, .tup (SqT.of upd_same) (.cons (.int _) (.cons (.int _) .nil)), .lst (SqL.of (e6 _ _ hpl)) (dpAll_mono e6 hps), (shP _).ok, (shPs ps).ok, _, rfl, ite2 (fun c => ?_) (fun c => ⟨_, _, rfl, eS4.trans e5⟩)⟩
        have ek : (!(ps.map pD).any fun d => PyData.eqv d (pD (z.2.s, z.2.p))) = keep ps z.2 := any_pD ps z.2
        have hin : (z.2.s, z.2.p) ∈ ps := by
          by_cases h : (z.2.s, z.2.p) ∈ ps
          · exact h
          · have := (keep_iff ps z.2).mpr h
            rw [← ek] at this
            rw [c] at this
            cases this
        have iS := hpo.2 _ hin
        have wl := word_lt hG iS
        have ent := he k kP z.2 (by rw [← hzs]; exact List.mem_map.mpr ⟨z, mem_of_get hz, rfl⟩) hin
        have eS5 := eS4.trans e5
        have cut2 : cutV (eV z.2) none (some 2) = [.int z.2.s, .int z.2.p] := rfl
        try rw [cut2]
        generalize upd H4 t (.tup [.int z.2.s, .int z.2.p]) = H5 at e5 e6 hM5 hz5 eS5 ⊢
        refine ⟨_, rfl, x.m, x.dx, _, rfl, hM5.ins, rfl, _, rfl, x.m, _, x.dx, _, _, rfl, hM5.ins, T.c_Memory, T.n_Memory_sizes, rfl, x.z, x.dz, _, rfl, hM5.sz, rfl, _, rfl, z.1, _, _, _, rfl, rfl, SqT.of hz5, at_of (j := 0) rfl rfl, _, rfl, z.1, _, _, _, rfl, rfl, SqT.of hz5, at_of (j := 1) rfl rfl, x.z, x.dz, x.p, x.f, x.b, _, _, rfl, hM5.sz, x, _, _, rfl, hM5, fun j ej v d h1 h2 => ?_, fun k => absurd wl k⟩
        have ed : d = wD (.frame z.2.f z.2.w) := by
          have h3 : s.cells[j]? = some d := h1
          have h4 : cellAt s.cells (wordC x.p z.2.s z.2.p) = d := by
            unfold cellAt
            rw [show wordC x.p z.2.s z.2.p = (j : Int) from ej, show ((j : Nat) : Int).toNat = j from rfl, h3]
            rfl
          rw [← h4]
          exact ent
        subst ed
        refine ⟨_, rfl, _, rfl, z.1, _, _, _, rfl, rfl, SqT.of hz5, at_of (j := 2) rfl rfl, _, rfl, z.1, _, _, _, rfl, rfl, SqT.of hz5, at_of (j := 3) rfl rfl, (by show 3 ≤ sizeLine; decide), fun t2 ht2 => ?_⟩
        have sw := (vok_wd (.frame z.2.f z.2.w)).sh.ok
        refine ⟨wD (.frame z.2.f z.2.w), wD (.frame z.2.f z.2.w), dp_mono (Same.new ht2) h2, .tup (SqT.of upd_same) (.cons (.str _) (.cons (.int _) (.cons (.bl _) .nil))), sw, sw, _, rfl, ?_⟩
        have er : PyData.eqv (wD (.frame z.2.f z.2.w)) (wD (.frame z.2.f z.2.w)) = true := eqv_frame _ _
        rw [er]
        exact iteF ⟨_, _, rfl, eS5.trans (Same.new ht2)⟩
      · rintro σ H4 ⟨y4, y5, rfl, eS4⟩
        exact ⟨_, _, _, rfl, e3.trans eS4⟩
    · rintro σ H' ⟨x3, x4, x5, rfl, eS⟩
      exact q _ eS

def spLaw (K : PySem.W.Frag) : Sp := fun vs H Q _ => ∃ (p : Addr) (ns : List Int), vs = [.ref p] ∧ SqL K H p (ns.map V.int) ∧ ns.length ≤ 63 ∧ ∀ H', Q (.bl true) H'
theorem tSeqIf_of {c : TT} {t u r : TS} {D : Ends} {σ : L2.St} {H : Hp} {Z : Prop} (ht : ∀ Q : Bool → Hp → Prop, (Z → Q true H) → (¬ Z → Q false H) → c σ H Q) (hT : Z → t { D with nx := r D } σ H) (hF : ¬ Z → u { D with nx := r D } σ H) : tSeq (tIfS c t u) r D σ H :=
  ht _ (fun z => iteT (hT z)) (fun z => iteF (hF z))
theorem gSeqIf_of {n : Nat} {v : V} {c : TT} {t u r : TS} {D : Ends} {σ : L2.St} {H : Hp} {Z : Prop} (ht : ∀ Q : Bool → Hp → Prop, (Z → Q true H) → (¬ Z → Q false H) → c (σ.set n (some v)) H Q) (hT : Z → t { D with nx := r D } (σ.set n (some v)) H) (hF : ¬ Z → u { D with nx := r D } (σ.set n (some v)) H) : gName n v σ H (tSeq (tIfS c t u) r D) :=
  tSeqIf_of ht hT hF
theorem or_and_no {x0 x1 x2 x3 x4 x5 x6 x7 x8 x9 x10 x11 x12 x13 x14 x17 : Option V} {H : Hp} {Q : Bool → Hp → Prop} {u : TT} {m l : Int} (h : l = 0 → m = 0) (g : u [x0, x1, x2, x3, x4, x5, x6, x7, x8, x9, x10, x11, x12, x13, x14, some (.int m), some (.int l), x17] H Q) :
    tOr (tAnd (tTest (tOp rEq (tVar 16) (tC (V.int 0)))) (tTest (tOp rNe (tVar 15) (tC (V.int 0))))) u [x0, x1, x2, x3, x4, x5, x6, x7, x8, x9, x10, x11, x12, x13, x14, some (.int m), some (.int l), x17] H Q := by
  refine ⟨_, rfl, rfl, _, rfl, ite2 (fun c => ⟨_, rfl, rfl, _, rfl, ite2 (fun c2 => ?_) (fun _ => g)⟩) (fun _ => iteF g)⟩
  have c := of_decide_eq_true c
  injection c with c
  rw [h c] at c2
  cases c2
theorem ok_law (T : Txt w K mg a) : FnOk P w K mg base CX0 13 a.f_law a.d_law ["script"] (spLaw K) := by
  refine T.F_law.ok sc_law (fun vs H Q E h => ?_) (fun cdv A outer s H vs Q E hr h => ?_)
  · obtain ⟨p, ns, rfl, _⟩ := h
    rfl
  · obtain ⟨sp, ns, rfl, hS, hlen, q⟩ := h
    refine ⟨_, (pss_cons (ps_set (i := 1) sc_law.nd rfl (Or.inl rfl) (pe_call (ok__law_tape T) (hr.mono (by decide)) rfl T.m__law_tape T.F__law_tape.kp T.B__law_tape .nil pass0 (pa_cons (pv 0) pa_nil)))
    (pss_cons (ps_set (i := 2) sc_law.nd rfl (Or.inl rfl) (pe_op op_add pe_int (pe_op op_mod (pe_call (ok__law_at T) (hr.mono (by decide)) rfl T.m__law_at T.F__law_at.kp T.B__law_at .nil pass0 (pa_cons (pv 1) (pa_cons pe_int pa_nil))) pe_int)))
    (pss_cons (ps_set (i := 3) sc_law.nd rfl (Or.inl rfl) (pe_make T.mk_Memory (ok_Memory_init T) (hr.mono (by decide)) rfl T.m_Memory T.B_Memory_init .nil pass0 (pa_cons (pe_make T.mk_Sizes (ok_Sizes_init T) (hr.mono (by decide)) rfl T.m_Sizes T.B_Sizes_init .nil passL (pa_cons (pv 2) (pa_cons pe_int (pa_cons pe_int pa_nil)))) pa_nil)))
    (pss_cons (ps_set (i := 4) sc_law.nd rfl (Or.inl rfl) (pe_make T.mk_Kernel (ok_Kernel_init T) (hr.mono (by decide)) rfl T.m_Kernel T.B_Kernel_init .nil pass0 (pa_cons (pv 3) pa_nil)))
    (pss_cons (ps_for PassesOwn.never rfl (pi_range1 rfl T.b_range (pa_cons pe_int pa_nil)) (pg_name (i := 5) sc_law.nd rfl (Or.inl rfl))
    (pss_one (ps_for PassesOwn.never rfl (pi_range1 rfl T.b_range (pa_cons pe_int pa_nil)) (pg_name (i := 6) sc_law.nd rfl (Or.inl rfl))
    (pss_one (ps_expr (pe_meth (pv 3) T.c_Memory T.M_Memory_access (ok_Memory_access T) (hr.mono (by decide)) T.B_Memory_access .nil passL (pa_cons pe_int (pa_cons (pe_tup (pa_cons pe_str (pa_cons (pe_meth (pe_fld (pv 3) rfl) T.c_Sizes T.M_Sizes_word (ok_Sizes_word T) (hr.mono (by decide)) T.B_Sizes_word .nil pass0 (pa_cons (pv 5) (pa_cons (pv 6) pa_nil))) (pa_cons (pe_tup (pa_cons pe_str (pa_cons (pv 6) (pa_cons pe_bl pa_nil)))) pa_nil)))) pa_nil))))))))
    (pss_cons (ps_set (i := 7) sc_law.nd rfl (Or.inl rfl) pe_int)
    (pss_cons (ps_for PassesOwn.never rfl (pi_range1 rfl T.b_range (pa_cons (pe_callB (call_min2 rfl) (by rfl) T.b_min (by decide +kernel) (pa_cons pe_int (pa_cons (pe_op op_add pe_int (pe_op op_fdiv (pe_callB call_len_seq (by rfl) T.b_len (by decide +kernel) (pa_cons (pv 1) pa_nil)) pe_int)) pa_nil))) pa_nil)) (pg_name (i := 8) sc_law.nd rfl (Or.inl rfl))
    (pss_cons (ps_for PassesOwn.never rfl (pi_range1 rfl T.b_range (pa_cons (pe_op op_mod (pe_call (ok__law_at T) (hr.mono (by decide)) rfl T.m__law_at T.F__law_at.kp T.B__law_at .nil pass0 (pa_cons (pv 1) (pa_cons (pe_op op_add (pv 8) pe_int) pa_nil))) pe_int) pa_nil)) (pg_name (i := 9) sc_law.nd rfl (Or.inl rfl))
    (pss_cons (ps_set (i := 10) sc_law.nd rfl (Or.inl rfl) (pe_call (ok__law_at T) (hr.mono (by decide)) rfl T.m__law_at T.F__law_at.kp T.B__law_at .nil pass0 (pa_cons (pv 1) (pa_cons (pe_op op_add (pv 8) (pv 9)) pa_nil))))
    (pss_one (ps_expr (pe_call (ok__law_other T) (hr.mono (by decide)) rfl T.m__law_other T.F__law_other.kp T.B__law_other .nil pass0 (pa_cons (pv 3) (pa_cons (pe_op op_mod (pv 10) (pv 2)) (pa_cons (pe_op op_fdiv (pv 10) (pv 2)) pa_nil))))))))
    (pss_cons (ps_set (i := 11) sc_law.nd rfl (Or.inl rfl) (pe_call (ok__law_change T) (hr.mono (by decide)) rfl T.m__law_change T.F__law_change.kp T.B__law_change .nil pass0 (pa_cons (pv 3) (pa_cons (pv 1) (pa_cons (pe_op op_add (pe_op op_mul pe_int (pv 8)) pe_int) pa_nil)))))
    (pss_cons (ps_set (i := 12) sc_law.nd rfl (Or.inl rfl) (pe_callTy call_list_of (by rfl) T.b_list (by decide +kernel) (pa_cons (pv 11) pa_nil)))
    (pss_cons (ps_set (i := 13) sc_law.nd rfl (Or.inl rfl) (pe_make T.mk_Stack (ok_Stack_init T) (hr.mono (by decide)) rfl T.m_Stack T.B_Stack_init .nil pass0 (pa_cons (pe_make T.mk_Invalidating (ok_Invalidating_init T) (hr.mono (by decide)) rfl T.m_Invalidating T.B_Invalidating_init .nil pass0 (pa_cons (pv 4) (pa_cons pe_int (pa_cons (pv 12) pa_nil)))) pa_nil)))
    (pss_cons (ps_asg (pe_call (ok__law_run T) (hr.mono (by decide)) rfl T.m__law_run T.F__law_run.kp T.B__law_run .nil pass0 (pa_cons (pv 3) (pa_cons (pv 13) (pa_cons (pv 2) (pa_cons (pv 1) (pa_cons (pe_op op_add (pe_op op_mul pe_int (pv 8)) pe_int) pa_nil)))))) (pg_tup rfl (pgs_cons (pg_name (i := 14) sc_law.nd rfl (Or.inl rfl)) (pgs_cons (pg_name (i := 15) sc_law.nd rfl (Or.inl rfl)) pgs_nil))))
    (pss_cons (ps_set (i := 16) sc_law.nd rfl (Or.inl rfl) (pe_op op_mul (pe_op op_mul (pe_callTy call_int1 (by rfl) T.b_int (by decide +kernel) (pa_cons (pe_cmpR (op_gt) (pe_callB call_len_seq (by rfl) T.b_len (by decide +kernel) (pa_cons (pv 11) pa_nil)) pe_int (nomark _)) pa_nil)) pe_int) (pe_op op_sub (pv 2) pe_int)))
    (pss_cons (ps_if (PW.pt (pw_or (pt_cmpR (op_lt) (pv 15) (pv 16) (nomark _)) (pw_or (PW.pt (pw_and (pt_cmpR (op_eq) (pv 16) pe_int (nomark _)) (pw_and1 (pt_cmpR (op_ne) (pv 15) pe_int (nomark _))))) (pw_or (pt_not (pt_val (pe_meth0 (pv 13) T.c_Stack T.M_Stack_ended (ok_Stack_ended T) (hr.mono (by decide)) T.B_Stack_ended .nil pass0))) (pw_or (pt_cmpR (op_neD hr.units) (pe_meth0 (pv 13) T.c_Stack T.M_Stack_value (ok_Stack_value T) (hr.mono (by decide)) T.B_Stack_value .nil pass0) (pv 14) (nomark _)) (pw_or1 (pt_cmpR (op_neD hr.units) (pv 12) (pv 11) (nomark _)))))))) (pss_one (ps_ret pe_bl)) pss_nil)
    (pss_mid (ps_if (pt_cmpR (op_gt) (pe_callB call_len_seq (by rfl) T.b_len (by decide +kernel) (pa_cons (pv 11) pa_nil)) pe_int (nomark _)) (pss_cons (ps_set (i := 7) sc_law.nd rfl (Or.inl rfl) (pe_op op_add (pv 7) pe_int))
    (pss_one (ps_for PassesOwn.never rfl (pi_range2 rfl T.b_range (pa_cons pe_int (pa_cons (pv 2) pa_nil))) (pg_name (i := 17) sc_law.nd rfl (Or.inl rfl))
    (pss_one (ps_if (pt_cmpR (op_neD hr.units) (pe_meth (pv 3) T.c_Memory T.M_Memory_peek (ok_Memory_peek T) (hr.mono (by decide)) T.B_Memory_peek .nil passL (pa_cons (pe_meth (pe_fld (pv 3) rfl) T.c_Sizes T.M_Sizes_acknowledge (ok_Sizes_acknowledge T) (hr.mono (by decide)) T.B_Sizes_acknowledge .nil pass0 (pa_cons (pv 17) pa_nil)) pa_nil)) (pv 7) (nomark _)) (pss_one (ps_ret pe_bl)) pss_nil))))) pss_nil)
    (pss_one (ps_if (PW.pt (pw_or (pt_cmpR (op_ne) (pe_fld (pv 4) rfl) (pv 7) (nomark _)) (pw_or1 (pt_not (pt_val (pe_call (ok__law_entries T) (hr.mono (by decide)) rfl T.m__law_entries T.F__law_entries.kp T.B__law_entries .nil pass0 (pa_cons (pv 3) (pa_cons (pv 2) (pa_cons (pv 11) pa_nil))))))))) (pss_one (ps_ret pe_bl)) pss_nil)))))))))))
    (pss_one (ps_ret pe_bl))))))))), ?_⟩
    refine ⟨_, rfl, sp, ns, rfl, hS, hlen, fun H1 tp ts e1 tp0 tpL dg tl => ?_⟩
    refine ⟨_, rfl, tp, ts, 0, rfl, SqL.of tpL, by decide, _, _, rfl, rfl, (by show (0 : Int) < 3; decide), _, _, rfl, rfl, ?_⟩
    dsimp (config := { proj := false, iota := false, eta := false, etaStruct := .none, zeta := false }) only
    obtain ⟨mn, emn⟩ : ∃ mn, mn = 1 + tsAt ts 0 % 3 := ⟨_, rfl⟩
    rw [← emn]
    have m3 : mn = 1 ∨ mn = 2 ∨ mn = 3 := by omega
    have okS : okSz mn 4 2 = true := by rcases m3 with rfl | rfl | rfl <;> decide
    clear emn
    refine ⟨_, rfl, fun z dx nz ndx nzd => ⟨z, dx, mn, 4, 2, rfl, upd_same, fun _ H2 s2 hz => ⟨rfl, ?_⟩, fun k => absurd (okS.symm.trans k) (by decide)⟩⟩
    have tp2 : H2 tp = some (.lst (ts.map V.int)) := s2 _ _ (ne_of_none tpL nz) (by rw [upd_ne (ne_of_none tpL nz), upd_ne (ne_of_none tpL ndx)]; exact tpL)
    refine fun m mdx nm nmx nmd => ?_
    have gm : Same H2 (upd (upd H2 mdx (.own m)) m (.ins a.C_Memory mdx [])) := fun c u h => by
      rw [upd_ne (ne_of_none h nm), upd_ne (ne_of_none h nmx)]
      exact h
    refine ⟨m, mdx, z, dx, mn, 4, 2, rfl, upd_same, gm _ _ hz, okS, fun H3 x xm xdx xz xdz xp xf xb s3 fr3 hM3 off3 => ⟨rfl, ?_⟩⟩
    have tp3 : H3 tp = some (.lst (ts.map V.int)) := s3 _ _ (ne_of_none tp2 nm) (gm _ _ tp2)
    have oT3 : Off H3 x tp := off3 tp _ (gm _ _ tp2) (ne_of_none tp2 nm)
    subst xp
    subst xm
    obtain ⟨s0, es0⟩ : ∃ s0 : Ts, s0 = ⟨0, firstD x.p 4 2, List.replicate x.p.toNat [], List.replicate x.p.toNat [], []⟩ := ⟨_, rfl⟩
    have hM : MemAt K ⟨a.C_Memory, a.C_Sizes, a.C_Buffer, a.C_Box⟩ H3 x s0.ms := by
      have e : s0.ms = initS x.p 4 2 := by
        rw [es0]
        unfold Ts.ms initS
        rw [List.map_replicate]
        rfl
      rw [e]
      exact hM3
    have okP := okSz_at okS
    have B0 : Bet x s0 0 := bet_init okP.1 xf (by omega) (by rw [es0, xf, xb]) (by rw [es0]) (by rw [es0]) hM.lenC
    have n0 : s0.n = 0 := by rw [es0]
    clear s3 fr3 gm s2 hz tp2 hM3 off3 es0
    refine ⟨_, rfl, fun kA dk nk nkx nkd => ?_⟩
    have gk : Same H3 (upd (upd H3 dk (.own kA)) kA (.ins a.C_Kernel dk [])) := fun c u h => by
      rw [upd_ne (ne_of_none h nk), upd_ne (ne_of_none h nkx)]
      exact h
    have hMk := hM.same gk
    refine ⟨kA, dk, x, s0.ms, rfl, upd_same, hMk, fun H4 d o o2 o3 sb hk => ⟨rfl, ?_⟩⟩
    have L4 : LK K ⟨a.C_Memory, a.C_Sizes, a.C_Buffer, a.C_Box⟩ a.C_Kernel H4 x s0 0 tp ts kA dk := ⟨mem_beside hMk upd_same sb, B0, sb _ _ (ne_of_none tp3 nk) (gk _ _ tp3), off_beside hMk upd_same sb (oT3.same hM gk), d, o, o2, o3, hk⟩
    clear gk hMk sb hk tp3 oT3 hM B0 nk nkx
    have p1 := okP.1.1
    have p3 := okP.1.2
    refine ⟨2, rfl, by decide, by decide, for_range (lo := 0) (n := (2 : Int).toNat)
      (fun i σ H' => ∃ (s : Ts) (x5 x6 : Option V), σ = [some (.ref sp), some (.ref tp), some (.int x.p), some (.ref x.m), some (.ref kA), x5, x6, none, none, none, none, none, none, none, none, none, none, none] ∧ LK K ⟨a.C_Memory, a.C_Sizes, a.C_Buffer, a.C_Box⟩ a.C_Kernel H' x s 0 tp ts kA dk ∧ s.n ≤ 4 * i)
      ⟨s0, none, none, rfl, L4, by omega⟩ ?_ ?_⟩
    · rintro i σ H' hi ⟨s, x5, x6, rfl, L, nL⟩
      have hi2 : i < 2 := hi
      have num0 : (0 : Int) + (i : Int) = (i : Int) := Int.zero_add _
      rw [num0]
      refine ⟨4, rfl, by decide, by decide, for_range (lo := 0) (n := (4 : Int).toNat)
        (fun j σ H' => ∃ (s : Ts) (x6 : Option V), σ = [some (.ref sp), some (.ref tp), some (.int x.p), some (.ref x.m), some (.ref kA), some (.int (i : Int)), x6, none, none, none, none, none, none, none, none, none, none, none] ∧ LK K ⟨a.C_Memory, a.C_Sizes, a.C_Buffer, a.C_Box⟩ a.C_Kernel H' x s 0 tp ts kA dk ∧ s.n ≤ 4 * i + j)
        ⟨s, x6, rfl, L, by omega⟩ ?_ ?_⟩
      · rintro j σ H' hj ⟨s, x6, rfl, L, nL⟩
        have hj2 : j < 4 := hj
        have num0 : (0 : Int) + (j : Int) = (j : Int) := Int.zero_add _
        rw [num0]
        have iS : inS (i : Int) (j : Int) := ⟨⟨by omega, by omega⟩, by omega, by omega⟩
        have wl := word_lt L.bet.good iS
        have hM := L.mem
        refine ⟨_, rfl, x.m, x.dx, _, rfl, hM.ins, rfl, _, rfl, x.m, _, x.dx, _, _, rfl, hM.ins, T.c_Memory, T.n_Memory_sizes, rfl, x.z, x.dz, _, rfl, hM.sz, rfl, _, rfl, _, rfl, x.z, x.dz, x.p, x.f, x.b, _, _, rfl, hM.sz, _, rfl, (by show 3 ≤ sizeLine; decide), fun t1 h1 => ⟨(by show 3 ≤ sizeLine; decide), fun t2 h2 => ?_⟩⟩
        have e1 := Same.new (o := .tup [.str "frame", .int (j : Int), .bl true]) h1
        have e2 := Same.new (o := .tup [.str "write", .int (wordC x.p (i : Int) (j : Int)), .ref t1]) h2
        have e12 := e1.trans e2
        have ok : wOk x.f (.frame (j : Int) true) := fun g b e => by
          cases e
          exact ⟨by omega, by omega⟩
        refine ⟨x, s, 0, _, .write (wordC x.p (i : Int) (j : Int)) (wD (.frame (j : Int) true)), rfl, hM.same e12, L.bet.good.tok, by omega, .tup (SqT.of upd_same) (.cons (.str _) (.cons (.int _) (.cons (.tup (SqT.of (e2 _ _ upd_same)) (.cons (.str _) (.cons (.int _) (.cons (.bl _) .nil)))) .nil))), ⟨wl, vok_wd _⟩, by omega, fun H5 v5 t5 fr5 hM5 _ _ => ?_⟩
        exact ⟨_, _, rfl, L.fr ((Fr.same hM e12).trans fr5) hM5 (L.bet.write iS ok 0), by show s.n + 1 ≤ _; omega⟩
      · rintro σ H' ⟨s, x6, rfl, L, nL⟩
        exact ⟨s, _, _, rfl, L, by have : (4 : Int).toNat = 4 := rfl; omega⟩
    rintro σ H5 ⟨s5, x5, x6, rfl, L5, n5⟩
    have n5 : s5.n ≤ 8 := n5
    have lts : ((ts.map V.int).length : Int) ≤ 4000 := by rw [List.length_map]; omega
    refine ⟨_, rfl, tp, _, rfl, .inl (SqL.of L5.tape), _, _, rfl, rfl, ⟨by decide, by decide⟩, _, _, rfl, rfl, _, _, rfl, _, rfl, (by split <;> omega), (by split <;> omega), for_range (lo := 0) (n := ((if (1 + ((ts.map V.int).length : Int) / 8) < 6 then (1 + ((ts.map V.int).length : Int) / 8) else 6) : Int).toNat)
      (fun i σ H' => ∃ (s : Ts) (tk : Nat) (x5 x6 x8 x9 x10 x11 x12 x13 x14 x15 x16 x17 : Option V), σ = [some (.ref sp), some (.ref tp), some (.int x.p), some (.ref x.m), some (.ref kA), x5, x6, some (.int (tk : Int)), x8, x9, x10, x11, x12, x13, x14, x15, x16, x17] ∧ LK K ⟨a.C_Memory, a.C_Sizes, a.C_Buffer, a.C_Box⟩ a.C_Kernel H' x s tk tp ts kA dk ∧ s.n ≤ 8 + 820 * i)
      ⟨s5, 0, _, _, none, none, none, none, none, none, none, none, none, none, rfl, L5, by omega⟩ ?_ ?_⟩
    · rintro i σ H' hi ⟨s, tk, x5, x6, x8, x9, x10, x11, x12, x13, x14, x15, x16, x17, rfl, L, nL⟩
      have hi6 : i < 6 := by
        revert hi
        split <;> omega
      have num0 : (0 : Int) + (i : Int) = (i : Int) := Int.zero_add _
      rw [num0]
      refine ⟨_, rfl, _, rfl, _, _, rfl, rfl, tp, ts, _, rfl, SqL.of L.tape, (by omega), _, _, rfl, rfl, (by show (0 : Int) < 7; decide), _, rfl, (by omega), (by omega), for_range (lo := 0) (n := (tsAt ts ((i : Int) + 1) % 7).toNat)
        (fun k σ H' => ∃ (s2 : Ts) (x9 x10 : Option V), σ = [some (.ref sp), some (.ref tp), some (.int x.p), some (.ref x.m), some (.ref kA), x5, x6, some (.int (tk : Int)), some (.int (i : Int)), x9, x10, x11, x12, x13, x14, x15, x16, x17] ∧ LK K ⟨a.C_Memory, a.C_Sizes, a.C_Buffer, a.C_Box⟩ a.C_Kernel H' x s2 tk tp ts kA dk ∧ s2.n ≤ s.n + k)
        ⟨s, _, _, rfl, L, by omega⟩ ?_ ?_⟩
      · rintro k σ H' hk ⟨s2, x9, x10, rfl, L, nL2⟩
        have hk7 : k < 7 := by omega
        have num0 : (0 : Int) + (k : Int) = (k : Int) := Int.zero_add _
        rw [num0]
        refine ⟨_, rfl, _, rfl, _, rfl, _, _, rfl, rfl, tp, ts, _, rfl, SqL.of L.tape, (by omega), ?_⟩
        have du := tsAt_dig dg ((i : Int) + (k : Int))
        dsimp (config := { proj := false, iota := false, eta := false, etaStruct := .none, zeta := false }) only
        generalize tsAt ts ((i : Int) + (k : Int)) = u at du ⊢
        have r0 := Int.emod_nonneg u (show x.p ≠ 0 by omega)
        have r1 := Int.emod_lt_of_pos u (show (0 : Int) < x.p by omega)
        obtain ⟨pn, epn⟩ : ∃ pn : Nat, u % x.p = (pn : Int) := ⟨(u % x.p).toNat, by omega⟩
        refine ⟨_, rfl, _, rfl, _, rfl, _, _, rfl, rfl, (by show (0 : Int) < x.p; omega), _, rfl, _, rfl, _, _, rfl, rfl, ⟨by omega, by omega⟩, x, s2, pn, u / x.p, (by show [V.ref x.m, V.int (u % x.p), V.int (u / x.p)] = _; rw [epn]), L.mem, L.bet.good, by omega, by omega, Int.ediv_nonneg du.1 (by omega), fun H1 s3 fr hM3 oth => ?_⟩
        have := oth_n oth
        exact ⟨s3, _, _, rfl, L.fr fr hM3 (L.bet.oth (by omega) oth), by omega⟩
      rintro σ H6 ⟨s2, x9, x10, rfl, L2, nL2⟩
      have nL2 : s2.n ≤ s.n + 7 := by omega
      refine ⟨_, rfl, _, rfl, _, rfl, _, _, rfl, rfl, .inl ⟨by decide, by decide⟩, _, _, rfl, rfl, x, s2, tk, tp, ts, _, rfl, L2.mem, L2.bet, L2.tape, L2.oT, dg, (by omega), (by omega), fun H3 s3 p ps fr hM3 hB3 n3 np hps hpo => ?_⟩
      have L3 := L2.fr fr hM3 hB3
      obtain ⟨pv, hp3, oP3, hd3⟩ := hps
      refine ⟨_, rfl, p, pv, rfl, .inl (SqL.of hp3), fun l hl => ?_⟩
      have e4 := Same.new (o := .lst pv) hl
      have L4 := L3.fr (Fr.same hM3 e4) (hM3.same e4) hB3
      have hp4 := e4 _ _ hp3
      have oP4 := oP3.same hM3 e4
      have hd4 := dpAll_mono e4 hd3
      have hl4 : upd H3 l (.lst pv) l = some (.lst pv) := upd_same
      have oL4 := (Off.fresh hM3 hl).same hM3 e4
      generalize upd H3 l (.lst pv) = H4 at e4 L4 hp4 oP4 hd4 hl4 oL4 ⊢
      refine ⟨_, rfl, _, rfl, fun iq idx n1 n2 n4 => ?_⟩
      have e5 : Same H4 (upd (upd H4 idx (.own iq)) iq (.ins a.C_Invalidating idx [])) := fun c u h => by
        rw [upd_ne (ne_of_none h n1), upd_ne (ne_of_none h n2)]
        exact h
      obtain ⟨d, o, o2, o3, hk4⟩ := L4.ker
      refine ⟨iq, idx, kA, dk, l, d, o, o2, o3, x, s3, tk, ps, pv, rfl, upd_same, e5 _ _ hk4, L4.mem.same e5, e5 _ _ hl4, dpAll_mono e5 hd4, by have := hpo.1; omega, oL4.same L4.mem e5, fun H7 os lv v s7 tk7 fr7 kt7 nos oos7 ker7 hM7 inv7 dj => ⟨rfl, fun yq ydx m1 m2 m4 => ?_⟩⟩
      have e8 : Same H7 (upd (upd H7 ydx (.own yq)) yq (.ins a.C_Stack ydx [])) := fun c u h => by
        rw [upd_ne (ne_of_none h m1), upd_ne (ne_of_none h m2)]
        exact h
      have hM8 := hM7.same e8
      refine ⟨yq, ydx, .ref iq, rfl, upd_same, fun H9 yl sb9 nyl nlq hy9 hl9 => ⟨rfl, ?_⟩⟩
      have e9 : Same H7 H9 := fun c u h => sb9 _ _ (ne_of_none h m1) (e8 _ _ h)
      have hM9 := hM7.same e9
      have oyl9 := off_beside hM8 upd_same sb9 (Off.fresh hM8 nyl)
      have f47 : ∀ c u, H4 c = some u → Free H4 x c u → c ≠ kA → H7 c = some u ∧ Free H7 x c u := fun c u hc fc nk => by
        have r5 := (Fr.same L4.mem e5) c u hc fc
        exact fr7 c u r5.1 r5.2 (ne_of_none hc n1) nk
      have nin : ∀ c u u7, H4 c = some u → H7 c = some u7 → c ∉ [yq, yl, iq] := fun c u u7 h4 h7 z => by
        simp only [List.mem_cons, List.not_mem_nil, or_false] at z
        rcases z with z | z | z
        · exact ne_of_none h7 m1 z
        · exact ne_of_none (e8 _ _ h7) nyl z
        · exact ne_of_none h4 n1 z
      have nkl : ∀ c vs, H4 c = some (.lst vs) → c ≠ kA := fun c vs h => ne_of h hk4 (fun z => nomatch z)
      have go : ∀ c vs, H4 c = some (.lst vs) → Off H4 x c → (H9 c = some (.lst vs) ∧ Off H9 x c) ∧ c ∉ [yq, yl, iq] := fun c vs h o => by
        have r7 := f47 c _ h o (nkl c vs h)
        exact ⟨(Fr.same hM7 e9).lst r7.1 r7.2, nin c _ _ h r7.1⟩
      obtain ⟨⟨tp9, oT9⟩, nT⟩ := go tp _ L4.tape L4.oT
      obtain ⟨⟨hp9, oP9⟩, nP⟩ := go p _ hp4 oP4
      obtain ⟨⟨hl9', oL9⟩, nL9⟩ := go l _ hl4 oL4
      have ker9 := e9 _ _ ker7
      have nK := nin kA _ _ hk4 ker7
      have kt49 : KT H4 H9 := ((KT.of e5).trans kt7).trans (KT.of e9)
      have hd9 := dpAll_keep kt49 (noLs_pairs ps) hd4
      have inv9 := inv7.same e9
      have nI : os ∉ [yq, yl, iq] := fun z => by
        have h7 := inv7.os
        simp only [List.mem_cons, List.not_mem_nil, or_false] at z
        rcases z with z | z | z
        · exact ne_of_none h7 m1 z
        · exact ne_of_none (e8 _ _ h7) nyl z
        · exact ne_of h7 inv7.ins (fun y => nomatch y) z
      obtain ⟨M, R0, vn, sn7, le7, hn7, hs7⟩ := ri_of L4.bet hpo dj
      refine ⟨_, rfl, _, rfl, _, rfl, _, rfl, _, rfl, _, _, rfl, rfl, .inl ⟨by decide, by decide⟩, _, _, rfl, rfl, x, s7, ⟨yq, ydx, yl, ⟨true, yq, yq, yq⟩⟩, ⟨iq, idx, os⟩, lv, v, .non, ⟨((tk + 1 : Nat) : Int), ps⟩, M, tp, ts, _, rfl, hM9, R0, vn, ⟨hy9, hl9⟩, inv9, oyl9, oos7.same hM7 e9, tp9, oT9, nT, nI, dg, (by omega), (by omega), fun HA sA vA made t frA ktA hMA RA eA nA hSA htA => ?_⟩
      refine ⟨t, _, rfl, SqT.of htA, rfl, _, _, rfl, _, _, rfl, rfl, ?_⟩
      obtain ⟨BA, entA, ackA, mkA, mzA⟩ := ri_bet RA eA le7 hn7 hs7
      obtain ⟨tpA, oTA⟩ := frA.lst tp9 oT9 nT
      obtain ⟨hpA, oPA⟩ := frA.lst hp9 oP9 nP
      obtain ⟨hlA, oLA⟩ := frA.lst hl9' oL9 nL9
      have kerA := (frA _ _ ker9 ⟨by decide +kernel, by decide +kernel⟩ nK).1
      have hdA := dpAll_keep ktA (noLs_pairs ps) hd9
      have LA : LK K ⟨a.C_Memory, a.C_Sizes, a.C_Buffer, a.C_Box⟩ a.C_Kernel HA x sA tk7 tp ts kA dk := ⟨hMA, BA, tpA, oTA, d, o, o2, o3, kerA⟩
      have lpv : pv.length = ps.length := by rw [dpAll_len hd4, List.length_map]
      clear frA ktA ker9 hd9 inv9 nI oos7 inv7 hM9 hM8 e8 e9 oyl9 f47 nin nkl go kt49 fr7 kt7 e5 oL4 hl4 hp4 oP4 L4 L3 R0
      refine ⟨_, rfl, p, pv, rfl, .inl (SqL.of hpA), _, _, rfl, rfl, .inr ⟨_, rfl, _, _, rfl, rfl, .inr ⟨by decide, by decide⟩, _, rfl, _, _, rfl, rfl, _, _, rfl, rfl, .inr ⟨by omega, by omega⟩, ?_⟩⟩
      dsimp (config := { proj := false, iota := false, eta := false, etaStruct := .none, zeta := false }) only
      obtain ⟨lst, el⟩ : ∃ lst : Int, lst = (if decide ((0 : Int) < (pv.length : Int)) = true then (1 : Int) else 0) * 2 * (x.p - 1) := ⟨_, rfl⟩
      rw [← el]
      have el1 : lst ≤ (made : Int) ∧ (lst = 0 → (made : Int) = 0) := by
        by_cases h : ps = []
        · have l0 : pv.length = 0 := by rw [lpv, h]; rfl
          rw [if_neg (by rw [l0]; decide), Int.zero_mul, Int.zero_mul] at el
          have := mzA (.inl h)
          omega
        · have l0 : 0 < pv.length := by rw [lpv]; exact List.length_pos_iff.mpr h
          rw [if_pos (decide_eq_true (by omega))] at el
          have := mkA h
          refine ⟨by omega, fun z => ?_⟩
          have := mzA (.inr (by omega))
          omega
      refine ⟨_, rfl, _, rfl, _, _, rfl, rfl, _, rfl, ite2 (fun c => absurd (of_decide_eq_true c) (by omega)) (fun _ => or_and_no el1.2 ?_)⟩
      refine ⟨_, rfl, yq, ydx, _, rfl, hSA.ins, rfl, ⟨yq, ydx, yl, ⟨true, yq, yq, yq⟩⟩, [], _, rfl, hSA, .inl ⟨rfl, _, rfl, iteF ?_⟩⟩
      refine ⟨_, rfl, yq, ydx, _, rfl, hSA.ins, rfl, ⟨yq, ydx, yl, ⟨true, yq, yq, yq⟩⟩, [], _, rfl, hSA, _, rfl, natD vA.num, natD vA.num, dp_natD _, dp_natD _, natD_sh _, natD_sh _, _, rfl, ?_⟩
      rw [natD_eqv]
      refine iteF ⟨_, rfl, _, rfl, .list (ps.map pD), .list (ps.map pD), .lst (SqL.of hlA) hdA, .lst (SqL.of hpA) hdA, (shPs ps).ok, (shPs ps).ok, _, rfl, ?_⟩
      rw [eqv_pairs]
      refine iteF ?_
      refine ⟨fun σ2 H2 => Same HA H2 ∧ ∃ x17, σ2 = [some (.ref sp), some (.ref tp), some (.int x.p), some (.ref x.m), some (.ref kA), x5, x6, some (.int (tk7 : Int)), some (.int (i : Int)), x9, x10, some (.ref p), some (.ref l), some (.ref yq), some (natV vA.num), some (.int (made : Int)), some (.int lst), x17], ?_, ?_⟩
      · refine ⟨_, rfl, p, pv, rfl, .inl (SqL.of hpA), _, _, rfl, rfl, _, rfl, ite2 (fun c => ?_) (fun c => ?_)⟩
        · have hps : ps ≠ [] := fun h => by
            have l0 : pv.length = 0 := by rw [lpv, h]; rfl
            rw [l0] at c
            cases c
          have etk := (hs7 hps).2
          have etk2 : (tk : Int) + 1 = (tk7 : Int) := by omega
          refine ⟨_, rfl, _, _, rfl, rfl, ?_⟩
          refine ⟨_, rfl, 1, x.p, rfl, ⟨by decide, by decide, by omega, by omega⟩, for_range (lo := 1) (n := (x.p - 1).toNat)
            (fun k σ H' => ∃ x17, σ = [some (.ref sp), some (.ref tp), some (.int x.p), some (.ref x.m), some (.ref kA), x5, x6, some (.int ((tk : Int) + 1)), some (.int (i : Int)), x9, x10, some (.ref p), some (.ref l), some (.ref yq), some (natV vA.num), some (.int (made : Int)), some (.int lst), x17] ∧ Same HA H')
            ⟨_, rfl, Same.refl HA⟩ ?_ ?_⟩
          · rintro k σ H' hk ⟨x17, rfl, eS⟩
            have hM := hMA.same eS
            have kP : ((k + 1 : Nat) : Int) < x.p := by omega
            have ek : (1 : Int) + (k : Int) = ((k + 1 : Nat) : Int) := by omega
            rw [ek]
            refine ⟨_, rfl, x.m, x.dx, _, rfl, hM.ins, rfl, _, rfl, x.m, _, x.dx, _, _, rfl, hM.ins, T.c_Memory, T.n_Memory_sizes, rfl, x.z, x.dz, _, rfl, hM.sz, rfl, _, rfl, x.z, x.dz, x.p, x.f, x.b, _, rfl, hM.sz, x, _, _, rfl, hM, fun j ej vv dd h1 h2 => ?_, fun k => absurd ⟨by omega, by unfold cellsN; omega⟩ k⟩
            have ed : dd = .int (tk7 : Int) := by
              have h4 := ackA hps (k + 1) (by omega) kP
              have h3 : sA.cells[j]? = some dd := h1
              unfold cellAt at h4
              rw [show (1 + ((k + 1 : Nat) : Int)) = (j : Int) from ej, show ((j : Nat) : Int).toNat = j from rfl, h3] at h4
              exact h4
            subst ed
            refine ⟨_, rfl, .int (tk7 : Int), .int ((tk : Int) + 1), h2, .int _, (sh_int _).ok, (sh_int _).ok, _, rfl, ?_⟩
            rw [eqv_int, etk2]
            refine ifF (by simp) ⟨_, rfl, eS⟩
          · rintro σ H' ⟨x17, rfl, eS⟩
            exact ⟨eS, x17, by rw [etk2]⟩
        · have hps : ps = [] := by
            cases ps with
            | nil => rfl
            | cons y r =>
              exfalso
              exact c (decide_eq_true (by rw [lpv]; simp only [List.length_cons]; omega))
          exact ⟨Same.refl HA, _, by rw [(hn7 hps).2]; rfl⟩
      · rintro σ2 H2 ⟨e2, x17, rfl⟩
        have hM2 := hMA.same e2
        refine ⟨_, rfl, kA, a.C_Kernel, dk, _, _, rfl, e2 _ _ kerA, T.c_Kernel, T.n_Kernel_ticket, rfl, _, rfl, rfl, _, rfl, ifF (by simp) ⟨_, rfl, _, rfl, _, rfl, x, sA, p, pv, ps, rfl, hM2, BA.good, e2 _ _ hpA, oPA.same hMA e2, dpAll_mono e2 hdA, BA.box, entA, hpo, fun HB eB => ⟨_, rfl, iteF ?_⟩⟩⟩
        have LB := LA.fr (Fr.same hMA (e2.trans eB)) (hMA.same (e2.trans eB)) BA
        exact ⟨sA, tk7, _, _, _, _, _, _, _, _, _, _, _, _, rfl, LB, by omega⟩
    · rintro σ H' ⟨s, tk, x5, x6, x8, x9, x10, x11, x12, x13, x14, x15, x16, x17, rfl, L, nL⟩
      exact q _

end
theorem all_mk {l : PySem.W.OpenLaw} {w : World} {K : PySem.W.Frag} {h : Heap} {mg : Str → Option Value} {fa : Addr} (X : K.In h) (G : h.Ns mainGlobals mg) (hfa : mg "law" = some (.ref fa))
    {C_PageError C_NotValid C_Box C_Stack C_Owners C_Hand C_Kernel C_Invalidating C_Buffer C_Sizes C_Memory f_PageError_init f_is_whole f_is_number_below f_is_tuple_of f_is_pair f_is_letter f_Box_init f_Box_send f_Box_take f_Box_letters f_asks_for f_Stack_init f_Stack_step f_Stack_ended f_Stack_value f_Stack__settled f_Stack__end f_Owners_init f_Hand_init f_Kernel_init f_Kernel_next_ticket f_Invalidating_init f_Invalidating_request f_Invalidating_accept f_leads_to_frame f_Buffer_init f_Buffer_put f_Buffer_drop f_Buffer_entries f_is_between f_is_value f_Sizes_init f_Sizes_acknowledge f_Sizes_word f_Sizes_cells f_first_values f_bound_of f_is_part f_is_request f_Memory_init f_Memory_access f_Memory_peek f_Memory__result f_Memory__take f_Memory__walk f__law_tape f__law_at f__law_word f__law_other f__law_entries f__law_change f__law_run f_law : Addr}
    {od_PageError_init an_PageError_init : Option Addr} {sl_PageError_init : Array (Option Value)} {oc_PageError_init kV_PageError_init dc_PageError_init pm_PageError_init cd_PageError_init ct_PageError_init : Value}
    {od_is_whole an_is_whole : Option Addr} {sl_is_whole : Array (Option Value)} {oc_is_whole kV_is_whole dc_is_whole pm_is_whole cd_is_whole ct_is_whole : Value}
    {od_is_number_below an_is_number_below : Option Addr} {sl_is_number_below : Array (Option Value)} {oc_is_number_below kV_is_number_below dc_is_number_below pm_is_number_below cd_is_number_below ct_is_number_below : Value}
    {od_is_tuple_of an_is_tuple_of : Option Addr} {sl_is_tuple_of : Array (Option Value)} {oc_is_tuple_of kV_is_tuple_of dc_is_tuple_of pm_is_tuple_of cd_is_tuple_of ct_is_tuple_of : Value}
    {od_is_pair an_is_pair : Option Addr} {sl_is_pair : Array (Option Value)} {oc_is_pair kV_is_pair dc_is_pair pm_is_pair cd_is_pair ct_is_pair : Value}
    {od_is_letter an_is_letter : Option Addr} {sl_is_letter : Array (Option Value)} {oc_is_letter kV_is_letter dc_is_letter pm_is_letter cd_is_letter ct_is_letter : Value}
    {od_Box_init an_Box_init : Option Addr} {sl_Box_init : Array (Option Value)} {oc_Box_init kV_Box_init dc_Box_init pm_Box_init cd_Box_init ct_Box_init : Value}
    {od_Box_send an_Box_send : Option Addr} {sl_Box_send : Array (Option Value)} {oc_Box_send kV_Box_send dc_Box_send pm_Box_send cd_Box_send ct_Box_send : Value}
    {od_Box_take an_Box_take : Option Addr} {sl_Box_take : Array (Option Value)} {oc_Box_take kV_Box_take dc_Box_take pm_Box_take cd_Box_take ct_Box_take : Value}
    {od_Box_letters an_Box_letters : Option Addr} {sl_Box_letters : Array (Option Value)} {oc_Box_letters kV_Box_letters dc_Box_letters pm_Box_letters cd_Box_letters ct_Box_letters : Value}
    {od_asks_for an_asks_for : Option Addr} {sl_asks_for : Array (Option Value)} {oc_asks_for kV_asks_for dc_asks_for pm_asks_for cd_asks_for ct_asks_for : Value}
    {od_Stack_init an_Stack_init : Option Addr} {sl_Stack_init : Array (Option Value)} {oc_Stack_init kV_Stack_init dc_Stack_init pm_Stack_init cd_Stack_init ct_Stack_init : Value}
    {od_Stack_step an_Stack_step : Option Addr} {sl_Stack_step : Array (Option Value)} {oc_Stack_step kV_Stack_step dc_Stack_step pm_Stack_step cd_Stack_step ct_Stack_step : Value}
    {od_Stack_ended an_Stack_ended : Option Addr} {sl_Stack_ended : Array (Option Value)} {oc_Stack_ended kV_Stack_ended dc_Stack_ended pm_Stack_ended cd_Stack_ended ct_Stack_ended : Value}
    {od_Stack_value an_Stack_value : Option Addr} {sl_Stack_value : Array (Option Value)} {oc_Stack_value kV_Stack_value dc_Stack_value pm_Stack_value cd_Stack_value ct_Stack_value : Value}
    {od_Stack__settled an_Stack__settled : Option Addr} {sl_Stack__settled : Array (Option Value)} {oc_Stack__settled kV_Stack__settled dc_Stack__settled pm_Stack__settled cd_Stack__settled ct_Stack__settled : Value}
    {od_Stack__end an_Stack__end : Option Addr} {sl_Stack__end : Array (Option Value)} {oc_Stack__end kV_Stack__end dc_Stack__end pm_Stack__end cd_Stack__end ct_Stack__end : Value}
    {od_Owners_init an_Owners_init : Option Addr} {sl_Owners_init : Array (Option Value)} {oc_Owners_init kV_Owners_init dc_Owners_init pm_Owners_init cd_Owners_init ct_Owners_init : Value}
    {od_Hand_init an_Hand_init : Option Addr} {sl_Hand_init : Array (Option Value)} {oc_Hand_init kV_Hand_init dc_Hand_init pm_Hand_init cd_Hand_init ct_Hand_init : Value}
    {od_Kernel_init an_Kernel_init : Option Addr} {sl_Kernel_init : Array (Option Value)} {oc_Kernel_init kV_Kernel_init dc_Kernel_init pm_Kernel_init cd_Kernel_init ct_Kernel_init : Value}
    {od_Kernel_next_ticket an_Kernel_next_ticket : Option Addr} {sl_Kernel_next_ticket : Array (Option Value)} {oc_Kernel_next_ticket kV_Kernel_next_ticket dc_Kernel_next_ticket pm_Kernel_next_ticket cd_Kernel_next_ticket ct_Kernel_next_ticket : Value}
    {od_Invalidating_init an_Invalidating_init : Option Addr} {sl_Invalidating_init : Array (Option Value)} {oc_Invalidating_init kV_Invalidating_init dc_Invalidating_init pm_Invalidating_init cd_Invalidating_init ct_Invalidating_init : Value}
    {od_Invalidating_request an_Invalidating_request : Option Addr} {sl_Invalidating_request : Array (Option Value)} {oc_Invalidating_request kV_Invalidating_request dc_Invalidating_request pm_Invalidating_request cd_Invalidating_request ct_Invalidating_request : Value}
    {od_Invalidating_accept an_Invalidating_accept : Option Addr} {sl_Invalidating_accept : Array (Option Value)} {oc_Invalidating_accept kV_Invalidating_accept dc_Invalidating_accept pm_Invalidating_accept cd_Invalidating_accept ct_Invalidating_accept : Value}
    {od_leads_to_frame an_leads_to_frame : Option Addr} {sl_leads_to_frame : Array (Option Value)} {oc_leads_to_frame kV_leads_to_frame dc_leads_to_frame pm_leads_to_frame cd_leads_to_frame ct_leads_to_frame : Value}
    {od_Buffer_init an_Buffer_init : Option Addr} {sl_Buffer_init : Array (Option Value)} {oc_Buffer_init kV_Buffer_init dc_Buffer_init pm_Buffer_init cd_Buffer_init ct_Buffer_init : Value}
    {od_Buffer_put an_Buffer_put : Option Addr} {sl_Buffer_put : Array (Option Value)} {oc_Buffer_put kV_Buffer_put dc_Buffer_put pm_Buffer_put cd_Buffer_put ct_Buffer_put : Value}
    {od_Buffer_drop an_Buffer_drop : Option Addr} {sl_Buffer_drop : Array (Option Value)} {oc_Buffer_drop kV_Buffer_drop dc_Buffer_drop pm_Buffer_drop cd_Buffer_drop ct_Buffer_drop : Value}
    {od_Buffer_entries an_Buffer_entries : Option Addr} {sl_Buffer_entries : Array (Option Value)} {oc_Buffer_entries kV_Buffer_entries dc_Buffer_entries pm_Buffer_entries cd_Buffer_entries ct_Buffer_entries : Value}
    {od_is_between an_is_between : Option Addr} {sl_is_between : Array (Option Value)} {oc_is_between kV_is_between dc_is_between pm_is_between cd_is_between ct_is_between : Value}
    {od_is_value an_is_value : Option Addr} {sl_is_value : Array (Option Value)} {oc_is_value kV_is_value dc_is_value pm_is_value cd_is_value ct_is_value : Value}
    {od_Sizes_init an_Sizes_init : Option Addr} {sl_Sizes_init : Array (Option Value)} {oc_Sizes_init kV_Sizes_init dc_Sizes_init pm_Sizes_init cd_Sizes_init ct_Sizes_init : Value}
    {od_Sizes_acknowledge an_Sizes_acknowledge : Option Addr} {sl_Sizes_acknowledge : Array (Option Value)} {oc_Sizes_acknowledge kV_Sizes_acknowledge dc_Sizes_acknowledge pm_Sizes_acknowledge cd_Sizes_acknowledge ct_Sizes_acknowledge : Value}
    {od_Sizes_word an_Sizes_word : Option Addr} {sl_Sizes_word : Array (Option Value)} {oc_Sizes_word kV_Sizes_word dc_Sizes_word pm_Sizes_word cd_Sizes_word ct_Sizes_word : Value}
    {od_Sizes_cells an_Sizes_cells : Option Addr} {sl_Sizes_cells : Array (Option Value)} {oc_Sizes_cells kV_Sizes_cells dc_Sizes_cells pm_Sizes_cells cd_Sizes_cells ct_Sizes_cells : Value}
    {od_first_values an_first_values : Option Addr} {sl_first_values : Array (Option Value)} {oc_first_values kV_first_values dc_first_values pm_first_values cd_first_values ct_first_values : Value}
    {od_bound_of an_bound_of : Option Addr} {sl_bound_of : Array (Option Value)} {oc_bound_of kV_bound_of dc_bound_of pm_bound_of cd_bound_of ct_bound_of : Value}
    {od_is_part an_is_part : Option Addr} {sl_is_part : Array (Option Value)} {oc_is_part kV_is_part dc_is_part pm_is_part cd_is_part ct_is_part : Value}
    {od_is_request an_is_request : Option Addr} {sl_is_request : Array (Option Value)} {oc_is_request kV_is_request dc_is_request pm_is_request cd_is_request ct_is_request : Value}
    {od_Memory_init an_Memory_init : Option Addr} {sl_Memory_init : Array (Option Value)} {oc_Memory_init kV_Memory_init dc_Memory_init pm_Memory_init cd_Memory_init ct_Memory_init : Value}
    {od_Memory_access an_Memory_access : Option Addr} {sl_Memory_access : Array (Option Value)} {oc_Memory_access kV_Memory_access dc_Memory_access pm_Memory_access cd_Memory_access ct_Memory_access : Value}
    {od_Memory_peek an_Memory_peek : Option Addr} {sl_Memory_peek : Array (Option Value)} {oc_Memory_peek kV_Memory_peek dc_Memory_peek pm_Memory_peek cd_Memory_peek ct_Memory_peek : Value}
    {od_Memory__result an_Memory__result : Option Addr} {sl_Memory__result : Array (Option Value)} {oc_Memory__result kV_Memory__result dc_Memory__result pm_Memory__result cd_Memory__result ct_Memory__result : Value}
    {od_Memory__take an_Memory__take : Option Addr} {sl_Memory__take : Array (Option Value)} {oc_Memory__take kV_Memory__take dc_Memory__take pm_Memory__take cd_Memory__take ct_Memory__take : Value}
    {od_Memory__walk an_Memory__walk : Option Addr} {sl_Memory__walk : Array (Option Value)} {oc_Memory__walk kV_Memory__walk dc_Memory__walk pm_Memory__walk cd_Memory__walk ct_Memory__walk : Value}
    {od__law_tape an__law_tape : Option Addr} {sl__law_tape : Array (Option Value)} {oc__law_tape kV__law_tape dc__law_tape pm__law_tape cd__law_tape ct__law_tape : Value}
    {od__law_at an__law_at : Option Addr} {sl__law_at : Array (Option Value)} {oc__law_at kV__law_at dc__law_at pm__law_at cd__law_at ct__law_at : Value}
    {od__law_word an__law_word : Option Addr} {sl__law_word : Array (Option Value)} {oc__law_word kV__law_word dc__law_word pm__law_word cd__law_word ct__law_word : Value}
    {od__law_other an__law_other : Option Addr} {sl__law_other : Array (Option Value)} {oc__law_other kV__law_other dc__law_other pm__law_other cd__law_other ct__law_other : Value}
    {od__law_entries an__law_entries : Option Addr} {sl__law_entries : Array (Option Value)} {oc__law_entries kV__law_entries dc__law_entries pm__law_entries cd__law_entries ct__law_entries : Value}
    {od__law_change an__law_change : Option Addr} {sl__law_change : Array (Option Value)} {oc__law_change kV__law_change dc__law_change pm__law_change cd__law_change ct__law_change : Value}
    {od__law_run an__law_run : Option Addr} {sl__law_run : Array (Option Value)} {oc__law_run kV__law_run dc__law_run pm__law_run cd__law_run ct__law_run : Value}
    {od_law an_law : Option Addr} {sl_law : Array (Option Value)} {oc_law kV_law dc_law pm_law cd_law ct_law : Value}
    {t_CELLS : Tok}
    {t_FILES : Tok}
    {t_FILE_PAGES : Tok}
    {t_MOST_ENTRIES : Tok}
    {t_PAGES : Tok}
    {t_SPACES : Tok}
    {nmX qX : Str} {NX : Addr} {bsX : List Value} {snX : List Str} {subX : List Value} {abX : Bool} {colX : Option Bool} {ddX : Option Addr} {x0 x1 x2 x3 x5 : Option Value}
    {pP : Addr} {nP : Nat} {t0 t1 t2 t3 t4 t5 t6 t7 t8 : Addr} {m0 m1 m2 m3 m4 m5 m6 m7 m8 : Nat} {k0 k1 k2 k3 k4 k5 k6 k7 k8 j00 j10 j11 j20 j21 j22 j30 j31 j50 j51 j60 j61 j62 j70 j71 j72 j73 j80 j81 j82 j83 j84 : Tok}
    (g_PageError : PySem.W.nsIn K mainGlobals "PageError" = some (some (.ref C_PageError)))
    (g_NotValid : PySem.W.nsIn K mainGlobals "NotValid" = some (some (.ref C_NotValid)))
    (g_Box : PySem.W.nsIn K mainGlobals "Box" = some (some (.ref C_Box)))
    (g_Stack : PySem.W.nsIn K mainGlobals "Stack" = some (some (.ref C_Stack)))
    (g_Owners : PySem.W.nsIn K mainGlobals "Owners" = some (some (.ref C_Owners)))
    (g_Hand : PySem.W.nsIn K mainGlobals "Hand" = some (some (.ref C_Hand)))
    (g_Kernel : PySem.W.nsIn K mainGlobals "Kernel" = some (some (.ref C_Kernel)))
    (g_Invalidating : PySem.W.nsIn K mainGlobals "Invalidating" = some (some (.ref C_Invalidating)))
    (g_Buffer : PySem.W.nsIn K mainGlobals "Buffer" = some (some (.ref C_Buffer)))
    (g_Sizes : PySem.W.nsIn K mainGlobals "Sizes" = some (some (.ref C_Sizes)))
    (g_Memory : PySem.W.nsIn K mainGlobals "Memory" = some (some (.ref C_Memory)))
    (a_PageError_init : PySem.W.findIn K (.ref C_PageError) "__init__" = some (some (.ref f_PageError_init)))
    (i_PageError_init : PySem.W.isFn K (.ref f_PageError_init) = true)
    (l_PageError_init : K.lookup f_PageError_init = some ⟨oc_PageError_init, od_PageError_init, .func (PySem.W.fnOf "__init__" "PageError.__init__" (defArgs s_PageError_init) (defBody s_PageError_init) (defScope s_PageError_init) .none kV_PageError_init dc_PageError_init pm_PageError_init an_PageError_init cd_PageError_init ct_PageError_init), sl_PageError_init⟩)
    (c_PageError_init : PySem.W.codeIn K cd_PageError_init "PageError.__init__" = true)
    (k_PageError_init : PySem.W.keepIn K (.ref f_PageError_init) = true)
    (a_is_whole : PySem.W.nsIn K mainGlobals "is_whole" = some (some (.ref f_is_whole)))
    (l_is_whole : K.lookup f_is_whole = some ⟨oc_is_whole, od_is_whole, .func (PySem.W.fnOf "is_whole" "is_whole" (defArgs s_is_whole) (defBody s_is_whole) (defScope s_is_whole) .none kV_is_whole dc_is_whole pm_is_whole an_is_whole cd_is_whole ct_is_whole), sl_is_whole⟩)
    (c_is_whole : PySem.W.codeIn K cd_is_whole "is_whole" = true)
    (k_is_whole : PySem.W.keepIn K (.ref f_is_whole) = true)
    (a_is_number_below : PySem.W.nsIn K mainGlobals "is_number_below" = some (some (.ref f_is_number_below)))
    (l_is_number_below : K.lookup f_is_number_below = some ⟨oc_is_number_below, od_is_number_below, .func (PySem.W.fnOf "is_number_below" "is_number_below" (defArgs s_is_number_below) (defBody s_is_number_below) (defScope s_is_number_below) .none kV_is_number_below dc_is_number_below pm_is_number_below an_is_number_below cd_is_number_below ct_is_number_below), sl_is_number_below⟩)
    (c_is_number_below : PySem.W.codeIn K cd_is_number_below "is_number_below" = true)
    (k_is_number_below : PySem.W.keepIn K (.ref f_is_number_below) = true)
    (a_is_tuple_of : PySem.W.nsIn K mainGlobals "is_tuple_of" = some (some (.ref f_is_tuple_of)))
    (l_is_tuple_of : K.lookup f_is_tuple_of = some ⟨oc_is_tuple_of, od_is_tuple_of, .func (PySem.W.fnOf "is_tuple_of" "is_tuple_of" (defArgs s_is_tuple_of) (defBody s_is_tuple_of) (defScope s_is_tuple_of) .none kV_is_tuple_of dc_is_tuple_of pm_is_tuple_of an_is_tuple_of cd_is_tuple_of ct_is_tuple_of), sl_is_tuple_of⟩)
    (c_is_tuple_of : PySem.W.codeIn K cd_is_tuple_of "is_tuple_of" = true)
    (k_is_tuple_of : PySem.W.keepIn K (.ref f_is_tuple_of) = true)
    (a_is_pair : PySem.W.nsIn K mainGlobals "is_pair" = some (some (.ref f_is_pair)))
    (l_is_pair : K.lookup f_is_pair = some ⟨oc_is_pair, od_is_pair, .func (PySem.W.fnOf "is_pair" "is_pair" (defArgs s_is_pair) (defBody s_is_pair) (defScope s_is_pair) .none kV_is_pair dc_is_pair pm_is_pair an_is_pair cd_is_pair ct_is_pair), sl_is_pair⟩)
    (c_is_pair : PySem.W.codeIn K cd_is_pair "is_pair" = true)
    (k_is_pair : PySem.W.keepIn K (.ref f_is_pair) = true)
    (a_is_letter : PySem.W.nsIn K mainGlobals "is_letter" = some (some (.ref f_is_letter)))
    (l_is_letter : K.lookup f_is_letter = some ⟨oc_is_letter, od_is_letter, .func (PySem.W.fnOf "is_letter" "is_letter" (defArgs s_is_letter) (defBody s_is_letter) (defScope s_is_letter) .none kV_is_letter dc_is_letter pm_is_letter an_is_letter cd_is_letter ct_is_letter), sl_is_letter⟩)
    (c_is_letter : PySem.W.codeIn K cd_is_letter "is_letter" = true)
    (k_is_letter : PySem.W.keepIn K (.ref f_is_letter) = true)
    (a_Box_init : PySem.W.findIn K (.ref C_Box) "__init__" = some (some (.ref f_Box_init)))
    (i_Box_init : PySem.W.isFn K (.ref f_Box_init) = true)
    (l_Box_init : K.lookup f_Box_init = some ⟨oc_Box_init, od_Box_init, .func (PySem.W.fnOf "__init__" "Box.__init__" (defArgs s_Box_init) (defBody s_Box_init) (defScope s_Box_init) .none kV_Box_init dc_Box_init pm_Box_init an_Box_init cd_Box_init ct_Box_init), sl_Box_init⟩)
    (c_Box_init : PySem.W.codeIn K cd_Box_init "Box.__init__" = true)
    (k_Box_init : PySem.W.keepIn K (.ref f_Box_init) = true)
    (a_Box_send : PySem.W.findIn K (.ref C_Box) "send" = some (some (.ref f_Box_send)))
    (i_Box_send : PySem.W.isFn K (.ref f_Box_send) = true)
    (l_Box_send : K.lookup f_Box_send = some ⟨oc_Box_send, od_Box_send, .func (PySem.W.fnOf "send" "Box.send" (defArgs s_Box_send) (defBody s_Box_send) (defScope s_Box_send) .none kV_Box_send dc_Box_send pm_Box_send an_Box_send cd_Box_send ct_Box_send), sl_Box_send⟩)
    (c_Box_send : PySem.W.codeIn K cd_Box_send "Box.send" = true)
    (k_Box_send : PySem.W.keepIn K (.ref f_Box_send) = true)
    (a_Box_take : PySem.W.findIn K (.ref C_Box) "take" = some (some (.ref f_Box_take)))
    (i_Box_take : PySem.W.isFn K (.ref f_Box_take) = true)
    (l_Box_take : K.lookup f_Box_take = some ⟨oc_Box_take, od_Box_take, .func (PySem.W.fnOf "take" "Box.take" (defArgs s_Box_take) (defBody s_Box_take) (defScope s_Box_take) .none kV_Box_take dc_Box_take pm_Box_take an_Box_take cd_Box_take ct_Box_take), sl_Box_take⟩)
    (c_Box_take : PySem.W.codeIn K cd_Box_take "Box.take" = true)
    (k_Box_take : PySem.W.keepIn K (.ref f_Box_take) = true)
    (a_Box_letters : PySem.W.findIn K (.ref C_Box) "letters" = some (some (.ref f_Box_letters)))
    (i_Box_letters : PySem.W.isFn K (.ref f_Box_letters) = true)
    (l_Box_letters : K.lookup f_Box_letters = some ⟨oc_Box_letters, od_Box_letters, .func (PySem.W.fnOf "letters" "Box.letters" (defArgs s_Box_letters) (defBody s_Box_letters) (defScope s_Box_letters) .none kV_Box_letters dc_Box_letters pm_Box_letters an_Box_letters cd_Box_letters ct_Box_letters), sl_Box_letters⟩)
    (c_Box_letters : PySem.W.codeIn K cd_Box_letters "Box.letters" = true)
    (k_Box_letters : PySem.W.keepIn K (.ref f_Box_letters) = true)
    (a_asks_for : PySem.W.nsIn K mainGlobals "asks_for" = some (some (.ref f_asks_for)))
    (l_asks_for : K.lookup f_asks_for = some ⟨oc_asks_for, od_asks_for, .func (PySem.W.fnOf "asks_for" "asks_for" (defArgs s_asks_for) (defBody s_asks_for) (defScope s_asks_for) .none kV_asks_for dc_asks_for pm_asks_for an_asks_for cd_asks_for ct_asks_for), sl_asks_for⟩)
    (c_asks_for : PySem.W.codeIn K cd_asks_for "asks_for" = true)
    (k_asks_for : PySem.W.keepIn K (.ref f_asks_for) = true)
    (a_Stack_init : PySem.W.findIn K (.ref C_Stack) "__init__" = some (some (.ref f_Stack_init)))
    (i_Stack_init : PySem.W.isFn K (.ref f_Stack_init) = true)
    (l_Stack_init : K.lookup f_Stack_init = some ⟨oc_Stack_init, od_Stack_init, .func (PySem.W.fnOf "__init__" "Stack.__init__" (defArgs s_Stack_init) (defBody s_Stack_init) (defScope s_Stack_init) .none kV_Stack_init dc_Stack_init pm_Stack_init an_Stack_init cd_Stack_init ct_Stack_init), sl_Stack_init⟩)
    (c_Stack_init : PySem.W.codeIn K cd_Stack_init "Stack.__init__" = true)
    (k_Stack_init : PySem.W.keepIn K (.ref f_Stack_init) = true)
    (a_Stack_step : PySem.W.findIn K (.ref C_Stack) "step" = some (some (.ref f_Stack_step)))
    (i_Stack_step : PySem.W.isFn K (.ref f_Stack_step) = true)
    (l_Stack_step : K.lookup f_Stack_step = some ⟨oc_Stack_step, od_Stack_step, .func (PySem.W.fnOf "step" "Stack.step" (defArgs s_Stack_step) (defBody s_Stack_step) (defScope s_Stack_step) .none kV_Stack_step dc_Stack_step pm_Stack_step an_Stack_step cd_Stack_step ct_Stack_step), sl_Stack_step⟩)
    (c_Stack_step : PySem.W.codeIn K cd_Stack_step "Stack.step" = true)
    (k_Stack_step : PySem.W.keepIn K (.ref f_Stack_step) = true)
    (a_Stack_ended : PySem.W.findIn K (.ref C_Stack) "ended" = some (some (.ref f_Stack_ended)))
    (i_Stack_ended : PySem.W.isFn K (.ref f_Stack_ended) = true)
    (l_Stack_ended : K.lookup f_Stack_ended = some ⟨oc_Stack_ended, od_Stack_ended, .func (PySem.W.fnOf "ended" "Stack.ended" (defArgs s_Stack_ended) (defBody s_Stack_ended) (defScope s_Stack_ended) .none kV_Stack_ended dc_Stack_ended pm_Stack_ended an_Stack_ended cd_Stack_ended ct_Stack_ended), sl_Stack_ended⟩)
    (c_Stack_ended : PySem.W.codeIn K cd_Stack_ended "Stack.ended" = true)
    (k_Stack_ended : PySem.W.keepIn K (.ref f_Stack_ended) = true)
    (a_Stack_value : PySem.W.findIn K (.ref C_Stack) "value" = some (some (.ref f_Stack_value)))
    (i_Stack_value : PySem.W.isFn K (.ref f_Stack_value) = true)
    (l_Stack_value : K.lookup f_Stack_value = some ⟨oc_Stack_value, od_Stack_value, .func (PySem.W.fnOf "value" "Stack.value" (defArgs s_Stack_value) (defBody s_Stack_value) (defScope s_Stack_value) .none kV_Stack_value dc_Stack_value pm_Stack_value an_Stack_value cd_Stack_value ct_Stack_value), sl_Stack_value⟩)
    (c_Stack_value : PySem.W.codeIn K cd_Stack_value "Stack.value" = true)
    (k_Stack_value : PySem.W.keepIn K (.ref f_Stack_value) = true)
    (a_Stack__settled : PySem.W.findIn K (.ref C_Stack) "_settled" = some (some (.ref f_Stack__settled)))
    (i_Stack__settled : PySem.W.isFn K (.ref f_Stack__settled) = true)
    (l_Stack__settled : K.lookup f_Stack__settled = some ⟨oc_Stack__settled, od_Stack__settled, .func (PySem.W.fnOf "_settled" "Stack._settled" (defArgs s_Stack__settled) (defBody s_Stack__settled) (defScope s_Stack__settled) .none kV_Stack__settled dc_Stack__settled pm_Stack__settled an_Stack__settled cd_Stack__settled ct_Stack__settled), sl_Stack__settled⟩)
    (c_Stack__settled : PySem.W.codeIn K cd_Stack__settled "Stack._settled" = true)
    (k_Stack__settled : PySem.W.keepIn K (.ref f_Stack__settled) = true)
    (a_Stack__end : PySem.W.findIn K (.ref C_Stack) "_end" = some (some (.ref f_Stack__end)))
    (i_Stack__end : PySem.W.isFn K (.ref f_Stack__end) = true)
    (l_Stack__end : K.lookup f_Stack__end = some ⟨oc_Stack__end, od_Stack__end, .func (PySem.W.fnOf "_end" "Stack._end" (defArgs s_Stack__end) (defBody s_Stack__end) (defScope s_Stack__end) .none kV_Stack__end dc_Stack__end pm_Stack__end an_Stack__end cd_Stack__end ct_Stack__end), sl_Stack__end⟩)
    (c_Stack__end : PySem.W.codeIn K cd_Stack__end "Stack._end" = true)
    (k_Stack__end : PySem.W.keepIn K (.ref f_Stack__end) = true)
    (a_Owners_init : PySem.W.findIn K (.ref C_Owners) "__init__" = some (some (.ref f_Owners_init)))
    (i_Owners_init : PySem.W.isFn K (.ref f_Owners_init) = true)
    (l_Owners_init : K.lookup f_Owners_init = some ⟨oc_Owners_init, od_Owners_init, .func (PySem.W.fnOf "__init__" "Owners.__init__" (defArgs s_Owners_init) (defBody s_Owners_init) (defScope s_Owners_init) .none kV_Owners_init dc_Owners_init pm_Owners_init an_Owners_init cd_Owners_init ct_Owners_init), sl_Owners_init⟩)
    (c_Owners_init : PySem.W.codeIn K cd_Owners_init "Owners.__init__" = true)
    (k_Owners_init : PySem.W.keepIn K (.ref f_Owners_init) = true)
    (a_Hand_init : PySem.W.findIn K (.ref C_Hand) "__init__" = some (some (.ref f_Hand_init)))
    (i_Hand_init : PySem.W.isFn K (.ref f_Hand_init) = true)
    (l_Hand_init : K.lookup f_Hand_init = some ⟨oc_Hand_init, od_Hand_init, .func (PySem.W.fnOf "__init__" "Hand.__init__" (defArgs s_Hand_init) (defBody s_Hand_init) (defScope s_Hand_init) .none kV_Hand_init dc_Hand_init pm_Hand_init an_Hand_init cd_Hand_init ct_Hand_init), sl_Hand_init⟩)
    (c_Hand_init : PySem.W.codeIn K cd_Hand_init "Hand.__init__" = true)
    (k_Hand_init : PySem.W.keepIn K (.ref f_Hand_init) = true)
    (a_Kernel_init : PySem.W.findIn K (.ref C_Kernel) "__init__" = some (some (.ref f_Kernel_init)))
    (i_Kernel_init : PySem.W.isFn K (.ref f_Kernel_init) = true)
    (l_Kernel_init : K.lookup f_Kernel_init = some ⟨oc_Kernel_init, od_Kernel_init, .func (PySem.W.fnOf "__init__" "Kernel.__init__" (defArgs s_Kernel_init) (defBody s_Kernel_init) (defScope s_Kernel_init) .none kV_Kernel_init dc_Kernel_init pm_Kernel_init an_Kernel_init cd_Kernel_init ct_Kernel_init), sl_Kernel_init⟩)
    (c_Kernel_init : PySem.W.codeIn K cd_Kernel_init "Kernel.__init__" = true)
    (k_Kernel_init : PySem.W.keepIn K (.ref f_Kernel_init) = true)
    (a_Kernel_next_ticket : PySem.W.findIn K (.ref C_Kernel) "next_ticket" = some (some (.ref f_Kernel_next_ticket)))
    (i_Kernel_next_ticket : PySem.W.isFn K (.ref f_Kernel_next_ticket) = true)
    (l_Kernel_next_ticket : K.lookup f_Kernel_next_ticket = some ⟨oc_Kernel_next_ticket, od_Kernel_next_ticket, .func (PySem.W.fnOf "next_ticket" "Kernel.next_ticket" (defArgs s_Kernel_next_ticket) (defBody s_Kernel_next_ticket) (defScope s_Kernel_next_ticket) .none kV_Kernel_next_ticket dc_Kernel_next_ticket pm_Kernel_next_ticket an_Kernel_next_ticket cd_Kernel_next_ticket ct_Kernel_next_ticket), sl_Kernel_next_ticket⟩)
    (c_Kernel_next_ticket : PySem.W.codeIn K cd_Kernel_next_ticket "Kernel.next_ticket" = true)
    (k_Kernel_next_ticket : PySem.W.keepIn K (.ref f_Kernel_next_ticket) = true)
    (a_Invalidating_init : PySem.W.findIn K (.ref C_Invalidating) "__init__" = some (some (.ref f_Invalidating_init)))
    (i_Invalidating_init : PySem.W.isFn K (.ref f_Invalidating_init) = true)
    (l_Invalidating_init : K.lookup f_Invalidating_init = some ⟨oc_Invalidating_init, od_Invalidating_init, .func (PySem.W.fnOf "__init__" "Invalidating.__init__" (defArgs s_Invalidating_init) (defBody s_Invalidating_init) (defScope s_Invalidating_init) .none kV_Invalidating_init dc_Invalidating_init pm_Invalidating_init an_Invalidating_init cd_Invalidating_init ct_Invalidating_init), sl_Invalidating_init⟩)
    (c_Invalidating_init : PySem.W.codeIn K cd_Invalidating_init "Invalidating.__init__" = true)
    (k_Invalidating_init : PySem.W.keepIn K (.ref f_Invalidating_init) = true)
    (a_Invalidating_request : PySem.W.findIn K (.ref C_Invalidating) "request" = some (some (.ref f_Invalidating_request)))
    (i_Invalidating_request : PySem.W.isFn K (.ref f_Invalidating_request) = true)
    (l_Invalidating_request : K.lookup f_Invalidating_request = some ⟨oc_Invalidating_request, od_Invalidating_request, .func (PySem.W.fnOf "request" "Invalidating.request" (defArgs s_Invalidating_request) (defBody s_Invalidating_request) (defScope s_Invalidating_request) .none kV_Invalidating_request dc_Invalidating_request pm_Invalidating_request an_Invalidating_request cd_Invalidating_request ct_Invalidating_request), sl_Invalidating_request⟩)
    (c_Invalidating_request : PySem.W.codeIn K cd_Invalidating_request "Invalidating.request" = true)
    (k_Invalidating_request : PySem.W.keepIn K (.ref f_Invalidating_request) = true)
    (a_Invalidating_accept : PySem.W.findIn K (.ref C_Invalidating) "accept" = some (some (.ref f_Invalidating_accept)))
    (i_Invalidating_accept : PySem.W.isFn K (.ref f_Invalidating_accept) = true)
    (l_Invalidating_accept : K.lookup f_Invalidating_accept = some ⟨oc_Invalidating_accept, od_Invalidating_accept, .func (PySem.W.fnOf "accept" "Invalidating.accept" (defArgs s_Invalidating_accept) (defBody s_Invalidating_accept) (defScope s_Invalidating_accept) .none kV_Invalidating_accept dc_Invalidating_accept pm_Invalidating_accept an_Invalidating_accept cd_Invalidating_accept ct_Invalidating_accept), sl_Invalidating_accept⟩)
    (c_Invalidating_accept : PySem.W.codeIn K cd_Invalidating_accept "Invalidating.accept" = true)
    (k_Invalidating_accept : PySem.W.keepIn K (.ref f_Invalidating_accept) = true)
    (a_leads_to_frame : PySem.W.nsIn K mainGlobals "leads_to_frame" = some (some (.ref f_leads_to_frame)))
    (l_leads_to_frame : K.lookup f_leads_to_frame = some ⟨oc_leads_to_frame, od_leads_to_frame, .func (PySem.W.fnOf "leads_to_frame" "leads_to_frame" (defArgs s_leads_to_frame) (defBody s_leads_to_frame) (defScope s_leads_to_frame) .none kV_leads_to_frame dc_leads_to_frame pm_leads_to_frame an_leads_to_frame cd_leads_to_frame ct_leads_to_frame), sl_leads_to_frame⟩)
    (c_leads_to_frame : PySem.W.codeIn K cd_leads_to_frame "leads_to_frame" = true)
    (k_leads_to_frame : PySem.W.keepIn K (.ref f_leads_to_frame) = true)
    (a_Buffer_init : PySem.W.findIn K (.ref C_Buffer) "__init__" = some (some (.ref f_Buffer_init)))
    (i_Buffer_init : PySem.W.isFn K (.ref f_Buffer_init) = true)
    (l_Buffer_init : K.lookup f_Buffer_init = some ⟨oc_Buffer_init, od_Buffer_init, .func (PySem.W.fnOf "__init__" "Buffer.__init__" (defArgs s_Buffer_init) (defBody s_Buffer_init) (defScope s_Buffer_init) .none kV_Buffer_init dc_Buffer_init pm_Buffer_init an_Buffer_init cd_Buffer_init ct_Buffer_init), sl_Buffer_init⟩)
    (c_Buffer_init : PySem.W.codeIn K cd_Buffer_init "Buffer.__init__" = true)
    (k_Buffer_init : PySem.W.keepIn K (.ref f_Buffer_init) = true)
    (a_Buffer_put : PySem.W.findIn K (.ref C_Buffer) "put" = some (some (.ref f_Buffer_put)))
    (i_Buffer_put : PySem.W.isFn K (.ref f_Buffer_put) = true)
    (l_Buffer_put : K.lookup f_Buffer_put = some ⟨oc_Buffer_put, od_Buffer_put, .func (PySem.W.fnOf "put" "Buffer.put" (defArgs s_Buffer_put) (defBody s_Buffer_put) (defScope s_Buffer_put) .none kV_Buffer_put dc_Buffer_put pm_Buffer_put an_Buffer_put cd_Buffer_put ct_Buffer_put), sl_Buffer_put⟩)
    (c_Buffer_put : PySem.W.codeIn K cd_Buffer_put "Buffer.put" = true)
    (k_Buffer_put : PySem.W.keepIn K (.ref f_Buffer_put) = true)
    (a_Buffer_drop : PySem.W.findIn K (.ref C_Buffer) "drop" = some (some (.ref f_Buffer_drop)))
    (i_Buffer_drop : PySem.W.isFn K (.ref f_Buffer_drop) = true)
    (l_Buffer_drop : K.lookup f_Buffer_drop = some ⟨oc_Buffer_drop, od_Buffer_drop, .func (PySem.W.fnOf "drop" "Buffer.drop" (defArgs s_Buffer_drop) (defBody s_Buffer_drop) (defScope s_Buffer_drop) .none kV_Buffer_drop dc_Buffer_drop pm_Buffer_drop an_Buffer_drop cd_Buffer_drop ct_Buffer_drop), sl_Buffer_drop⟩)
    (c_Buffer_drop : PySem.W.codeIn K cd_Buffer_drop "Buffer.drop" = true)
    (k_Buffer_drop : PySem.W.keepIn K (.ref f_Buffer_drop) = true)
    (a_Buffer_entries : PySem.W.findIn K (.ref C_Buffer) "entries" = some (some (.ref f_Buffer_entries)))
    (i_Buffer_entries : PySem.W.isFn K (.ref f_Buffer_entries) = true)
    (l_Buffer_entries : K.lookup f_Buffer_entries = some ⟨oc_Buffer_entries, od_Buffer_entries, .func (PySem.W.fnOf "entries" "Buffer.entries" (defArgs s_Buffer_entries) (defBody s_Buffer_entries) (defScope s_Buffer_entries) .none kV_Buffer_entries dc_Buffer_entries pm_Buffer_entries an_Buffer_entries cd_Buffer_entries ct_Buffer_entries), sl_Buffer_entries⟩)
    (c_Buffer_entries : PySem.W.codeIn K cd_Buffer_entries "Buffer.entries" = true)
    (k_Buffer_entries : PySem.W.keepIn K (.ref f_Buffer_entries) = true)
    (a_is_between : PySem.W.nsIn K mainGlobals "is_between" = some (some (.ref f_is_between)))
    (l_is_between : K.lookup f_is_between = some ⟨oc_is_between, od_is_between, .func (PySem.W.fnOf "is_between" "is_between" (defArgs s_is_between) (defBody s_is_between) (defScope s_is_between) .none kV_is_between dc_is_between pm_is_between an_is_between cd_is_between ct_is_between), sl_is_between⟩)
    (c_is_between : PySem.W.codeIn K cd_is_between "is_between" = true)
    (k_is_between : PySem.W.keepIn K (.ref f_is_between) = true)
    (a_is_value : PySem.W.nsIn K mainGlobals "is_value" = some (some (.ref f_is_value)))
    (l_is_value : K.lookup f_is_value = some ⟨oc_is_value, od_is_value, .func (PySem.W.fnOf "is_value" "is_value" (defArgs s_is_value) (defBody s_is_value) (defScope s_is_value) .none kV_is_value dc_is_value pm_is_value an_is_value cd_is_value ct_is_value), sl_is_value⟩)
    (c_is_value : PySem.W.codeIn K cd_is_value "is_value" = true)
    (k_is_value : PySem.W.keepIn K (.ref f_is_value) = true)
    (a_Sizes_init : PySem.W.findIn K (.ref C_Sizes) "__init__" = some (some (.ref f_Sizes_init)))
    (i_Sizes_init : PySem.W.isFn K (.ref f_Sizes_init) = true)
    (l_Sizes_init : K.lookup f_Sizes_init = some ⟨oc_Sizes_init, od_Sizes_init, .func (PySem.W.fnOf "__init__" "Sizes.__init__" (defArgs s_Sizes_init) (defBody s_Sizes_init) (defScope s_Sizes_init) .none kV_Sizes_init dc_Sizes_init pm_Sizes_init an_Sizes_init cd_Sizes_init ct_Sizes_init), sl_Sizes_init⟩)
    (c_Sizes_init : PySem.W.codeIn K cd_Sizes_init "Sizes.__init__" = true)
    (k_Sizes_init : PySem.W.keepIn K (.ref f_Sizes_init) = true)
    (a_Sizes_acknowledge : PySem.W.findIn K (.ref C_Sizes) "acknowledge" = some (some (.ref f_Sizes_acknowledge)))
    (i_Sizes_acknowledge : PySem.W.isFn K (.ref f_Sizes_acknowledge) = true)
    (l_Sizes_acknowledge : K.lookup f_Sizes_acknowledge = some ⟨oc_Sizes_acknowledge, od_Sizes_acknowledge, .func (PySem.W.fnOf "acknowledge" "Sizes.acknowledge" (defArgs s_Sizes_acknowledge) (defBody s_Sizes_acknowledge) (defScope s_Sizes_acknowledge) .none kV_Sizes_acknowledge dc_Sizes_acknowledge pm_Sizes_acknowledge an_Sizes_acknowledge cd_Sizes_acknowledge ct_Sizes_acknowledge), sl_Sizes_acknowledge⟩)
    (c_Sizes_acknowledge : PySem.W.codeIn K cd_Sizes_acknowledge "Sizes.acknowledge" = true)
    (k_Sizes_acknowledge : PySem.W.keepIn K (.ref f_Sizes_acknowledge) = true)
    (a_Sizes_word : PySem.W.findIn K (.ref C_Sizes) "word" = some (some (.ref f_Sizes_word)))
    (i_Sizes_word : PySem.W.isFn K (.ref f_Sizes_word) = true)
    (l_Sizes_word : K.lookup f_Sizes_word = some ⟨oc_Sizes_word, od_Sizes_word, .func (PySem.W.fnOf "word" "Sizes.word" (defArgs s_Sizes_word) (defBody s_Sizes_word) (defScope s_Sizes_word) .none kV_Sizes_word dc_Sizes_word pm_Sizes_word an_Sizes_word cd_Sizes_word ct_Sizes_word), sl_Sizes_word⟩)
    (c_Sizes_word : PySem.W.codeIn K cd_Sizes_word "Sizes.word" = true)
    (k_Sizes_word : PySem.W.keepIn K (.ref f_Sizes_word) = true)
    (a_Sizes_cells : PySem.W.findIn K (.ref C_Sizes) "cells" = some (some (.ref f_Sizes_cells)))
    (i_Sizes_cells : PySem.W.isFn K (.ref f_Sizes_cells) = true)
    (l_Sizes_cells : K.lookup f_Sizes_cells = some ⟨oc_Sizes_cells, od_Sizes_cells, .func (PySem.W.fnOf "cells" "Sizes.cells" (defArgs s_Sizes_cells) (defBody s_Sizes_cells) (defScope s_Sizes_cells) .none kV_Sizes_cells dc_Sizes_cells pm_Sizes_cells an_Sizes_cells cd_Sizes_cells ct_Sizes_cells), sl_Sizes_cells⟩)
    (c_Sizes_cells : PySem.W.codeIn K cd_Sizes_cells "Sizes.cells" = true)
    (k_Sizes_cells : PySem.W.keepIn K (.ref f_Sizes_cells) = true)
    (a_first_values : PySem.W.nsIn K mainGlobals "first_values" = some (some (.ref f_first_values)))
    (l_first_values : K.lookup f_first_values = some ⟨oc_first_values, od_first_values, .func (PySem.W.fnOf "first_values" "first_values" (defArgs s_first_values) (defBody s_first_values) (defScope s_first_values) .none kV_first_values dc_first_values pm_first_values an_first_values cd_first_values ct_first_values), sl_first_values⟩)
    (c_first_values : PySem.W.codeIn K cd_first_values "first_values" = true)
    (k_first_values : PySem.W.keepIn K (.ref f_first_values) = true)
    (a_bound_of : PySem.W.nsIn K mainGlobals "bound_of" = some (some (.ref f_bound_of)))
    (l_bound_of : K.lookup f_bound_of = some ⟨oc_bound_of, od_bound_of, .func (PySem.W.fnOf "bound_of" "bound_of" (defArgs s_bound_of) (defBody s_bound_of) (defScope s_bound_of) .none kV_bound_of dc_bound_of pm_bound_of an_bound_of cd_bound_of ct_bound_of), sl_bound_of⟩)
    (c_bound_of : PySem.W.codeIn K cd_bound_of "bound_of" = true)
    (k_bound_of : PySem.W.keepIn K (.ref f_bound_of) = true)
    (a_is_part : PySem.W.nsIn K mainGlobals "is_part" = some (some (.ref f_is_part)))
    (l_is_part : K.lookup f_is_part = some ⟨oc_is_part, od_is_part, .func (PySem.W.fnOf "is_part" "is_part" (defArgs s_is_part) (defBody s_is_part) (defScope s_is_part) .none kV_is_part dc_is_part pm_is_part an_is_part cd_is_part ct_is_part), sl_is_part⟩)
    (c_is_part : PySem.W.codeIn K cd_is_part "is_part" = true)
    (k_is_part : PySem.W.keepIn K (.ref f_is_part) = true)
    (a_is_request : PySem.W.nsIn K mainGlobals "is_request" = some (some (.ref f_is_request)))
    (l_is_request : K.lookup f_is_request = some ⟨oc_is_request, od_is_request, .func (PySem.W.fnOf "is_request" "is_request" (defArgs s_is_request) (defBody s_is_request) (defScope s_is_request) .none kV_is_request dc_is_request pm_is_request an_is_request cd_is_request ct_is_request), sl_is_request⟩)
    (c_is_request : PySem.W.codeIn K cd_is_request "is_request" = true)
    (k_is_request : PySem.W.keepIn K (.ref f_is_request) = true)
    (a_Memory_init : PySem.W.findIn K (.ref C_Memory) "__init__" = some (some (.ref f_Memory_init)))
    (i_Memory_init : PySem.W.isFn K (.ref f_Memory_init) = true)
    (l_Memory_init : K.lookup f_Memory_init = some ⟨oc_Memory_init, od_Memory_init, .func (PySem.W.fnOf "__init__" "Memory.__init__" (defArgs s_Memory_init) (defBody s_Memory_init) (defScope s_Memory_init) .none kV_Memory_init dc_Memory_init pm_Memory_init an_Memory_init cd_Memory_init ct_Memory_init), sl_Memory_init⟩)
    (c_Memory_init : PySem.W.codeIn K cd_Memory_init "Memory.__init__" = true)
    (k_Memory_init : PySem.W.keepIn K (.ref f_Memory_init) = true)
    (a_Memory_access : PySem.W.findIn K (.ref C_Memory) "access" = some (some (.ref f_Memory_access)))
    (i_Memory_access : PySem.W.isFn K (.ref f_Memory_access) = true)
    (l_Memory_access : K.lookup f_Memory_access = some ⟨oc_Memory_access, od_Memory_access, .func (PySem.W.fnOf "access" "Memory.access" (defArgs s_Memory_access) (defBody s_Memory_access) (defScope s_Memory_access) .none kV_Memory_access dc_Memory_access pm_Memory_access an_Memory_access cd_Memory_access ct_Memory_access), sl_Memory_access⟩)
    (c_Memory_access : PySem.W.codeIn K cd_Memory_access "Memory.access" = true)
    (k_Memory_access : PySem.W.keepIn K (.ref f_Memory_access) = true)
    (a_Memory_peek : PySem.W.findIn K (.ref C_Memory) "peek" = some (some (.ref f_Memory_peek)))
    (i_Memory_peek : PySem.W.isFn K (.ref f_Memory_peek) = true)
    (l_Memory_peek : K.lookup f_Memory_peek = some ⟨oc_Memory_peek, od_Memory_peek, .func (PySem.W.fnOf "peek" "Memory.peek" (defArgs s_Memory_peek) (defBody s_Memory_peek) (defScope s_Memory_peek) .none kV_Memory_peek dc_Memory_peek pm_Memory_peek an_Memory_peek cd_Memory_peek ct_Memory_peek), sl_Memory_peek⟩)
    (c_Memory_peek : PySem.W.codeIn K cd_Memory_peek "Memory.peek" = true)
    (k_Memory_peek : PySem.W.keepIn K (.ref f_Memory_peek) = true)
    (a_Memory__result : PySem.W.findIn K (.ref C_Memory) "_result" = some (some (.ref f_Memory__result)))
    (i_Memory__result : PySem.W.isFn K (.ref f_Memory__result) = true)
    (l_Memory__result : K.lookup f_Memory__result = some ⟨oc_Memory__result, od_Memory__result, .func (PySem.W.fnOf "_result" "Memory._result" (defArgs s_Memory__result) (defBody s_Memory__result) (defScope s_Memory__result) .none kV_Memory__result dc_Memory__result pm_Memory__result an_Memory__result cd_Memory__result ct_Memory__result), sl_Memory__result⟩)
    (c_Memory__result : PySem.W.codeIn K cd_Memory__result "Memory._result" = true)
    (k_Memory__result : PySem.W.keepIn K (.ref f_Memory__result) = true)
    (a_Memory__take : PySem.W.findIn K (.ref C_Memory) "_take" = some (some (.ref f_Memory__take)))
    (i_Memory__take : PySem.W.isFn K (.ref f_Memory__take) = true)
    (l_Memory__take : K.lookup f_Memory__take = some ⟨oc_Memory__take, od_Memory__take, .func (PySem.W.fnOf "_take" "Memory._take" (defArgs s_Memory__take) (defBody s_Memory__take) (defScope s_Memory__take) .none kV_Memory__take dc_Memory__take pm_Memory__take an_Memory__take cd_Memory__take ct_Memory__take), sl_Memory__take⟩)
    (c_Memory__take : PySem.W.codeIn K cd_Memory__take "Memory._take" = true)
    (k_Memory__take : PySem.W.keepIn K (.ref f_Memory__take) = true)
    (a_Memory__walk : PySem.W.findIn K (.ref C_Memory) "_walk" = some (some (.ref f_Memory__walk)))
    (i_Memory__walk : PySem.W.isFn K (.ref f_Memory__walk) = true)
    (l_Memory__walk : K.lookup f_Memory__walk = some ⟨oc_Memory__walk, od_Memory__walk, .func (PySem.W.fnOf "_walk" "Memory._walk" (defArgs s_Memory__walk) (defBody s_Memory__walk) (defScope s_Memory__walk) .none kV_Memory__walk dc_Memory__walk pm_Memory__walk an_Memory__walk cd_Memory__walk ct_Memory__walk), sl_Memory__walk⟩)
    (c_Memory__walk : PySem.W.codeIn K cd_Memory__walk "Memory._walk" = true)
    (k_Memory__walk : PySem.W.keepIn K (.ref f_Memory__walk) = true)
    (a__law_tape : PySem.W.nsIn K mainGlobals "_law_tape" = some (some (.ref f__law_tape)))
    (l__law_tape : K.lookup f__law_tape = some ⟨oc__law_tape, od__law_tape, .func (PySem.W.fnOf "_law_tape" "_law_tape" (defArgs s__law_tape) (defBody s__law_tape) (defScope s__law_tape) .none kV__law_tape dc__law_tape pm__law_tape an__law_tape cd__law_tape ct__law_tape), sl__law_tape⟩)
    (c__law_tape : PySem.W.codeIn K cd__law_tape "_law_tape" = true)
    (k__law_tape : PySem.W.keepIn K (.ref f__law_tape) = true)
    (a__law_at : PySem.W.nsIn K mainGlobals "_law_at" = some (some (.ref f__law_at)))
    (l__law_at : K.lookup f__law_at = some ⟨oc__law_at, od__law_at, .func (PySem.W.fnOf "_law_at" "_law_at" (defArgs s__law_at) (defBody s__law_at) (defScope s__law_at) .none kV__law_at dc__law_at pm__law_at an__law_at cd__law_at ct__law_at), sl__law_at⟩)
    (c__law_at : PySem.W.codeIn K cd__law_at "_law_at" = true)
    (k__law_at : PySem.W.keepIn K (.ref f__law_at) = true)
    (a__law_word : PySem.W.nsIn K mainGlobals "_law_word" = some (some (.ref f__law_word)))
    (l__law_word : K.lookup f__law_word = some ⟨oc__law_word, od__law_word, .func (PySem.W.fnOf "_law_word" "_law_word" (defArgs s__law_word) (defBody s__law_word) (defScope s__law_word) .none kV__law_word dc__law_word pm__law_word an__law_word cd__law_word ct__law_word), sl__law_word⟩)
    (c__law_word : PySem.W.codeIn K cd__law_word "_law_word" = true)
    (k__law_word : PySem.W.keepIn K (.ref f__law_word) = true)
    (a__law_other : PySem.W.nsIn K mainGlobals "_law_other" = some (some (.ref f__law_other)))
    (l__law_other : K.lookup f__law_other = some ⟨oc__law_other, od__law_other, .func (PySem.W.fnOf "_law_other" "_law_other" (defArgs s__law_other) (defBody s__law_other) (defScope s__law_other) .none kV__law_other dc__law_other pm__law_other an__law_other cd__law_other ct__law_other), sl__law_other⟩)
    (c__law_other : PySem.W.codeIn K cd__law_other "_law_other" = true)
    (k__law_other : PySem.W.keepIn K (.ref f__law_other) = true)
    (a__law_entries : PySem.W.nsIn K mainGlobals "_law_entries" = some (some (.ref f__law_entries)))
    (l__law_entries : K.lookup f__law_entries = some ⟨oc__law_entries, od__law_entries, .func (PySem.W.fnOf "_law_entries" "_law_entries" (defArgs s__law_entries) (defBody s__law_entries) (defScope s__law_entries) .none kV__law_entries dc__law_entries pm__law_entries an__law_entries cd__law_entries ct__law_entries), sl__law_entries⟩)
    (c__law_entries : PySem.W.codeIn K cd__law_entries "_law_entries" = true)
    (k__law_entries : PySem.W.keepIn K (.ref f__law_entries) = true)
    (a__law_change : PySem.W.nsIn K mainGlobals "_law_change" = some (some (.ref f__law_change)))
    (l__law_change : K.lookup f__law_change = some ⟨oc__law_change, od__law_change, .func (PySem.W.fnOf "_law_change" "_law_change" (defArgs s__law_change) (defBody s__law_change) (defScope s__law_change) .none kV__law_change dc__law_change pm__law_change an__law_change cd__law_change ct__law_change), sl__law_change⟩)
    (c__law_change : PySem.W.codeIn K cd__law_change "_law_change" = true)
    (k__law_change : PySem.W.keepIn K (.ref f__law_change) = true)
    (a__law_run : PySem.W.nsIn K mainGlobals "_law_run" = some (some (.ref f__law_run)))
    (l__law_run : K.lookup f__law_run = some ⟨oc__law_run, od__law_run, .func (PySem.W.fnOf "_law_run" "_law_run" (defArgs s__law_run) (defBody s__law_run) (defScope s__law_run) .none kV__law_run dc__law_run pm__law_run an__law_run cd__law_run ct__law_run), sl__law_run⟩)
    (c__law_run : PySem.W.codeIn K cd__law_run "_law_run" = true)
    (k__law_run : PySem.W.keepIn K (.ref f__law_run) = true)
    (a_law : PySem.W.nsIn K mainGlobals "law" = some (some (.ref f_law)))
    (l_law : K.lookup f_law = some ⟨oc_law, od_law, .func (PySem.W.fnOf "law" "law" (defArgs s_law) (defBody s_law) (defScope s_law) .none kV_law dc_law pm_law an_law cd_law ct_law), sl_law⟩)
    (c_law : PySem.W.codeIn K cd_law "law" = true)
    (k_law : PySem.W.keepIn K (.ref f_law) = true)
    (pg_Box : PySem.W.plainGet K C_Box Str.empty = true)
    (hd_Box : PySem.W.hasDictIn K C_Box = true)
    (po_Box : PySem.W.plainOver K C_Box = true)
    (sa_Box : PySem.W.findIn K (.ref C_Box) "__setattr__" = some (some (.builtin "object.__setattr__")))
    (mk_Box : PySem.W.makesIn K C_Box = true)
    (kc_Box : PySem.W.keepIn K (.ref C_Box) = true)
    (n_Box__letters : PySem.W.findIn K (.ref C_Box) "_letters" = some none)
    (pg_Stack : PySem.W.plainGet K C_Stack Str.empty = true)
    (hd_Stack : PySem.W.hasDictIn K C_Stack = true)
    (po_Stack : PySem.W.plainOver K C_Stack = true)
    (sa_Stack : PySem.W.findIn K (.ref C_Stack) "__setattr__" = some (some (.builtin "object.__setattr__")))
    (mk_Stack : PySem.W.makesIn K C_Stack = true)
    (kc_Stack : PySem.W.keepIn K (.ref C_Stack) = true)
    (n_Stack__machines : PySem.W.findIn K (.ref C_Stack) "_machines" = some none)
    (n_Stack__value : PySem.W.findIn K (.ref C_Stack) "_value" = some none)
    (pg_Owners : PySem.W.plainGet K C_Owners Str.empty = true)
    (hd_Owners : PySem.W.hasDictIn K C_Owners = true)
    (po_Owners : PySem.W.plainOver K C_Owners = true)
    (sa_Owners : PySem.W.findIn K (.ref C_Owners) "__setattr__" = some (some (.builtin "object.__setattr__")))
    (mk_Owners : PySem.W.makesIn K C_Owners = true)
    (kc_Owners : PySem.W.keepIn K (.ref C_Owners) = true)
    (n_Owners__owners : PySem.W.findIn K (.ref C_Owners) "_owners" = some none)
    (n_Owners__held : PySem.W.findIn K (.ref C_Owners) "_held" = some none)
    (pg_Hand : PySem.W.plainGet K C_Hand Str.empty = true)
    (hd_Hand : PySem.W.hasDictIn K C_Hand = true)
    (po_Hand : PySem.W.plainOver K C_Hand = true)
    (sa_Hand : PySem.W.findIn K (.ref C_Hand) "__setattr__" = some (some (.builtin "object.__setattr__")))
    (mk_Hand : PySem.W.makesIn K C_Hand = true)
    (kc_Hand : PySem.W.keepIn K (.ref C_Hand) = true)
    (n_Hand__many : PySem.W.findIn K (.ref C_Hand) "_many" = some none)
    (n_Hand__frame : PySem.W.findIn K (.ref C_Hand) "_frame" = some none)
    (pg_Kernel : PySem.W.plainGet K C_Kernel Str.empty = true)
    (hd_Kernel : PySem.W.hasDictIn K C_Kernel = true)
    (po_Kernel : PySem.W.plainOver K C_Kernel = true)
    (sa_Kernel : PySem.W.findIn K (.ref C_Kernel) "__setattr__" = some (some (.builtin "object.__setattr__")))
    (mk_Kernel : PySem.W.makesIn K C_Kernel = true)
    (kc_Kernel : PySem.W.keepIn K (.ref C_Kernel) = true)
    (n_Kernel_memory : PySem.W.findIn K (.ref C_Kernel) "memory" = some none)
    (n_Kernel_sizes : PySem.W.findIn K (.ref C_Kernel) "sizes" = some none)
    (n_Kernel_spaces : PySem.W.findIn K (.ref C_Kernel) "spaces" = some none)
    (n_Kernel_frames : PySem.W.findIn K (.ref C_Kernel) "frames" = some none)
    (n_Kernel_blocks : PySem.W.findIn K (.ref C_Kernel) "blocks" = some none)
    (n_Kernel_hand : PySem.W.findIn K (.ref C_Kernel) "hand" = some none)
    (n_Kernel_ticket : PySem.W.findIn K (.ref C_Kernel) "ticket" = some none)
    (pg_Invalidating : PySem.W.plainGet K C_Invalidating Str.empty = true)
    (hd_Invalidating : PySem.W.hasDictIn K C_Invalidating = true)
    (po_Invalidating : PySem.W.plainOver K C_Invalidating = true)
    (sa_Invalidating : PySem.W.findIn K (.ref C_Invalidating) "__setattr__" = some (some (.builtin "object.__setattr__")))
    (mk_Invalidating : PySem.W.makesIn K C_Invalidating = true)
    (kc_Invalidating : PySem.W.keepIn K (.ref C_Invalidating) = true)
    (n_Invalidating__sizes : PySem.W.findIn K (.ref C_Invalidating) "_sizes" = some none)
    (n_Invalidating__others : PySem.W.findIn K (.ref C_Invalidating) "_others" = some none)
    (n_Invalidating__letter : PySem.W.findIn K (.ref C_Invalidating) "_letter" = some none)
    (n_Invalidating__sent : PySem.W.findIn K (.ref C_Invalidating) "_sent" = some none)
    (n_Invalidating__answered : PySem.W.findIn K (.ref C_Invalidating) "_answered" = some none)
    (n_Invalidating__number : PySem.W.findIn K (.ref C_Invalidating) "_number" = some none)
    (pg_Buffer : PySem.W.plainGet K C_Buffer Str.empty = true)
    (hd_Buffer : PySem.W.hasDictIn K C_Buffer = true)
    (po_Buffer : PySem.W.plainOver K C_Buffer = true)
    (sa_Buffer : PySem.W.findIn K (.ref C_Buffer) "__setattr__" = some (some (.builtin "object.__setattr__")))
    (mk_Buffer : PySem.W.makesIn K C_Buffer = true)
    (kc_Buffer : PySem.W.keepIn K (.ref C_Buffer) = true)
    (n_Buffer__entries : PySem.W.findIn K (.ref C_Buffer) "_entries" = some none)
    (pg_Sizes : PySem.W.plainGet K C_Sizes Str.empty = true)
    (hd_Sizes : PySem.W.hasDictIn K C_Sizes = true)
    (po_Sizes : PySem.W.plainOver K C_Sizes = true)
    (sa_Sizes : PySem.W.findIn K (.ref C_Sizes) "__setattr__" = some (some (.builtin "object.__setattr__")))
    (mk_Sizes : PySem.W.makesIn K C_Sizes = true)
    (kc_Sizes : PySem.W.keepIn K (.ref C_Sizes) = true)
    (n_Sizes_processors : PySem.W.findIn K (.ref C_Sizes) "processors" = some none)
    (n_Sizes_frames : PySem.W.findIn K (.ref C_Sizes) "frames" = some none)
    (n_Sizes_blocks : PySem.W.findIn K (.ref C_Sizes) "blocks" = some none)
    (n_Sizes__acknowledges : PySem.W.findIn K (.ref C_Sizes) "_acknowledges" = some none)
    (n_Sizes__words : PySem.W.findIn K (.ref C_Sizes) "_words" = some none)
    (n_Sizes__frame_cells : PySem.W.findIn K (.ref C_Sizes) "_frame_cells" = some none)
    (n_Sizes__swap_blocks : PySem.W.findIn K (.ref C_Sizes) "_swap_blocks" = some none)
    (n_Sizes__file_blocks : PySem.W.findIn K (.ref C_Sizes) "_file_blocks" = some none)
    (pg_Memory : PySem.W.plainGet K C_Memory Str.empty = true)
    (hd_Memory : PySem.W.hasDictIn K C_Memory = true)
    (po_Memory : PySem.W.plainOver K C_Memory = true)
    (sa_Memory : PySem.W.findIn K (.ref C_Memory) "__setattr__" = some (some (.builtin "object.__setattr__")))
    (mk_Memory : PySem.W.makesIn K C_Memory = true)
    (kc_Memory : PySem.W.keepIn K (.ref C_Memory) = true)
    (n_Memory_sizes : PySem.W.findIn K (.ref C_Memory) "sizes" = some none)
    (n_Memory_count : PySem.W.findIn K (.ref C_Memory) "count" = some none)
    (n_Memory_buffers : PySem.W.findIn K (.ref C_Memory) "buffers" = some none)
    (n_Memory_boxes : PySem.W.findIn K (.ref C_Memory) "boxes" = some none)
    (n_Memory__cells : PySem.W.findIn K (.ref C_Memory) "_cells" = some none)
    (n_Memory__log : PySem.W.findIn K (.ref C_Memory) "_log" = some none)
    (z_CELLS : PySem.W.nsIn K mainGlobals "CELLS" = some (some (.int 2 t_CELLS)))
    (z_FILES : PySem.W.nsIn K mainGlobals "FILES" = some (some (.int 2 t_FILES)))
    (z_FILE_PAGES : PySem.W.nsIn K mainGlobals "FILE_PAGES" = some (some (.int 4 t_FILE_PAGES)))
    (z_MOST_ENTRIES : PySem.W.nsIn K mainGlobals "MOST_ENTRIES" = some (some (.int 2 t_MOST_ENTRIES)))
    (z_PAGES : PySem.W.nsIn K mainGlobals "PAGES" = some (some (.int 8 t_PAGES)))
    (z_SPACES : PySem.W.nsIn K mainGlobals "SPACES" = some (some (.int 4 t_SPACES)))
    (z_ValueError : PySem.W.nsIn K mainGlobals "ValueError" = some none)
    (z_abs : PySem.W.nsIn K mainGlobals "abs" = some none)
    (z_all : PySem.W.nsIn K mainGlobals "all" = some none)
    (z_bool : PySem.W.nsIn K mainGlobals "bool" = some none)
    (z_int : PySem.W.nsIn K mainGlobals "int" = some none)
    (z_isinstance : PySem.W.nsIn K mainGlobals "isinstance" = some none)
    (z_len : PySem.W.nsIn K mainGlobals "len" = some none)
    (z_list : PySem.W.nsIn K mainGlobals "list" = some none)
    (z_min : PySem.W.nsIn K mainGlobals "min" = some none)
    (z_range : PySem.W.nsIn K mainGlobals "range" = some none)
    (z_str : PySem.W.nsIn K mainGlobals "str" = some none)
    (z_tuple : PySem.W.nsIn K mainGlobals "tuple" = some none)
    (z_zip : PySem.W.nsIn K mainGlobals "zip" = some none)
    (y_xL : K.lookup C_NotValid = some (excClassObj nmX qX C_NotValid NX bsX [.ref C_PageError, .type "ValueError", .type "Exception", .type "BaseException", .type "object"] true snX subX abX colX ddX x0 x1 x2 x3 x5 "ValueError.__new__"))
    (y_vV : PySem.W.findCls K (.type "ValueError") (.type "type") "__init__" = some (.val (.builtin "ValueError.__init__")))
    (y_xi_NotValid : PySem.W.findIn K (.ref C_NotValid) "__init__" = some (some (.ref f_PageError_init)))
    (y_xt_NotValid : PySem.W.typeIn K (.ref f_PageError_init) = some (.type "function"))
    (y_xs_NotValid : PySem.W.findIn K (.ref C_NotValid) "__setattr__" = some (some (.builtin "object.__setattr__")))
    (y_xb_NotValid : PySem.W.subIn K (.ref C_NotValid) (.type "BaseException") = some true)
    (y_xy_NotValid : PySem.W.typeIn K (.ref C_NotValid) = some (.type "type"))
    (y_xk_NotValid : PySem.W.keepIn K (.ref C_NotValid) = true)
    (y_e1 : PySem.W.findIn K (.ref C_NotValid) "__getattribute__" = some (some (.builtin "BaseException.__getattribute__")))
    (y_e2 : PySem.W.findIn K (.ref C_NotValid) "__getattr__" = some none)
    (y_e4 : PySem.W.hasDictIn K C_NotValid = true)
    (y_e5 : PySem.W.findIn K (.ref C_NotValid) "__class__" = some (some (.builtin "object.__class__")))
    (y_e6 : PySem.W.specialIn K (.builtin "object.__class__") "__get__" = some (some (.builtin "getset_descriptor.__get__")))
    (y_e7 : PySem.W.takesIn K (.builtin "object.__class__") = some true)
    (y_e8 : PySem.W.mroIn K C_NotValid (.type "object") = some true)
    (y_p1 : PySem.W.subIn K (.ref C_PageError) (.type "BaseException") = some true)
    (y_p2 : PySem.W.hasDictIn K C_PageError = true)
    (y_p3 : PySem.W.typeIn K (.ref C_PageError) = some (.type "type"))
    (y_p4 : PySem.W.subIn K (.ref C_NotValid) (.ref C_PageError) = some true)
    (y_q4 : PySem.W.kitOne K (.ref C_NotValid) (.ref C_NotValid) = some true)
    (y_gP : PySem.W.nsIn K mainGlobals "PARTS" = some (some (.ref pP)))
    (y_sP : (pP == sysModules) = false)
    (y_lP : K.lookup pP = some ⟨.type "dict", none, .dict #[⟨PyData.keyHash w.params "read", .str "read" k0, .ref t0⟩, ⟨PyData.keyHash w.params "write", .str "write" k1, .ref t1⟩, ⟨PyData.keyHash w.params "swap", .str "swap" k2, .ref t2⟩, ⟨PyData.keyHash w.params "send", .str "send" k3, .ref t3⟩, ⟨PyData.keyHash w.params "take", .str "take" k4, .ref t4⟩, ⟨PyData.keyHash w.params "walk", .str "walk" k5, .ref t5⟩, ⟨PyData.keyHash w.params "load", .str "load" k6, .ref t6⟩, ⟨PyData.keyHash w.params "store", .str "store" k7, .ref t7⟩, ⟨PyData.keyHash w.params "change", .str "change" k8, .ref t8⟩] nP, #[]⟩)
    (y_t0 : K.lookup t0 = some ⟨.type "tuple", none, .seq #[.str "cell" j00] m0, #[]⟩)
    (y_t1 : K.lookup t1 = some ⟨.type "tuple", none, .seq #[.str "cell" j10, .str "value" j11] m1, #[]⟩)
    (y_t2 : K.lookup t2 = some ⟨.type "tuple", none, .seq #[.str "cell" j20, .str "value" j21, .str "value" j22] m2, #[]⟩)
    (y_t3 : K.lookup t3 = some ⟨.type "tuple", none, .seq #[.str "processor" j30, .str "letter" j31] m3, #[]⟩)
    (y_t4 : K.lookup t4 = some ⟨.type "tuple", none, .seq #[] m4, #[]⟩)
    (y_t5 : K.lookup t5 = some ⟨.type "tuple", none, .seq #[.str "space" j50, .str "page" j51] m5, #[]⟩)
    (y_t6 : K.lookup t6 = some ⟨.type "tuple", none, .seq #[.str "space" j60, .str "page" j61, .str "index" j62] m6, #[]⟩)
    (y_t7 : K.lookup t7 = some ⟨.type "tuple", none, .seq #[.str "space" j70, .str "page" j71, .str "index" j72, .str "value" j73] m7, #[]⟩)
    (y_t8 : K.lookup t8 = some ⟨.type "tuple", none, .seq #[.str "space" j80, .str "page" j81, .str "index" j82, .str "value" j83, .str "value" j84] m8, #[]⟩)
    : ∃ fd : FuncData, (∀ (s : Shared) (v : Value), BindsTo s fd ⟨[v], []⟩ [("script", v)]) ∧ ∀ base : Heap, K.In base → base.Ns mainGlobals mg → FnOk l.prog w K mg base CX0 14 fa fd ["script"] (spLaw K) := by
  have e := hfa.symm.trans (PySem.W.mg_of X G a_law)
  cases e
  have T : Txt w K mg ⟨C_PageError, C_NotValid, C_Box, C_Stack, C_Owners, C_Hand, C_Kernel, C_Invalidating, C_Buffer, C_Sizes, C_Memory, f_PageError_init, f_is_whole, f_is_number_below, f_is_tuple_of, f_is_pair, f_is_letter, f_Box_init, f_Box_send, f_Box_take, f_Box_letters, f_asks_for, f_Stack_init, f_Stack_step, f_Stack_ended, f_Stack_value, f_Stack__settled, f_Stack__end, f_Owners_init, f_Hand_init, f_Kernel_init, f_Kernel_next_ticket, f_Invalidating_init, f_Invalidating_request, f_Invalidating_accept, f_leads_to_frame, f_Buffer_init, f_Buffer_put, f_Buffer_drop, f_Buffer_entries, f_is_between, f_is_value, f_Sizes_init, f_Sizes_acknowledge, f_Sizes_word, f_Sizes_cells, f_first_values, f_bound_of, f_is_part, f_is_request, f_Memory_init, f_Memory_access, f_Memory_peek, f_Memory__result, f_Memory__take, f_Memory__walk, f__law_tape, f__law_at, f__law_word, f__law_other, f__law_entries, f__law_change, f__law_run, fa, PySem.W.fnOf "__init__" "PageError.__init__" (defArgs s_PageError_init) (defBody s_PageError_init) (defScope s_PageError_init) .none kV_PageError_init dc_PageError_init pm_PageError_init an_PageError_init cd_PageError_init ct_PageError_init, PySem.W.fnOf "is_whole" "is_whole" (defArgs s_is_whole) (defBody s_is_whole) (defScope s_is_whole) .none kV_is_whole dc_is_whole pm_is_whole an_is_whole cd_is_whole ct_is_whole, PySem.W.fnOf "is_number_below" "is_number_below" (defArgs s_is_number_below) (defBody s_is_number_below) (defScope s_is_number_below) .none kV_is_number_below dc_is_number_below pm_is_number_below an_is_number_below cd_is_number_below ct_is_number_below, PySem.W.fnOf "is_tuple_of" "is_tuple_of" (defArgs s_is_tuple_of) (defBody s_is_tuple_of) (defScope s_is_tuple_of) .none kV_is_tuple_of dc_is_tuple_of pm_is_tuple_of an_is_tuple_of cd_is_tuple_of ct_is_tuple_of, PySem.W.fnOf "is_pair" "is_pair" (defArgs s_is_pair) (defBody s_is_pair) (defScope s_is_pair) .none kV_is_pair dc_is_pair pm_is_pair an_is_pair cd_is_pair ct_is_pair, PySem.W.fnOf "is_letter" "is_letter" (defArgs s_is_letter) (defBody s_is_letter) (defScope s_is_letter) .none kV_is_letter dc_is_letter pm_is_letter an_is_letter cd_is_letter ct_is_letter, PySem.W.fnOf "__init__" "Box.__init__" (defArgs s_Box_init) (defBody s_Box_init) (defScope s_Box_init) .none kV_Box_init dc_Box_init pm_Box_init an_Box_init cd_Box_init ct_Box_init, PySem.W.fnOf "send" "Box.send" (defArgs s_Box_send) (defBody s_Box_send) (defScope s_Box_send) .none kV_Box_send dc_Box_send pm_Box_send an_Box_send cd_Box_send ct_Box_send, PySem.W.fnOf "take" "Box.take" (defArgs s_Box_take) (defBody s_Box_take) (defScope s_Box_take) .none kV_Box_take dc_Box_take pm_Box_take an_Box_take cd_Box_take ct_Box_take, PySem.W.fnOf "letters" "Box.letters" (defArgs s_Box_letters) (defBody s_Box_letters) (defScope s_Box_letters) .none kV_Box_letters dc_Box_letters pm_Box_letters an_Box_letters cd_Box_letters ct_Box_letters, PySem.W.fnOf "asks_for" "asks_for" (defArgs s_asks_for) (defBody s_asks_for) (defScope s_asks_for) .none kV_asks_for dc_asks_for pm_asks_for an_asks_for cd_asks_for ct_asks_for, PySem.W.fnOf "__init__" "Stack.__init__" (defArgs s_Stack_init) (defBody s_Stack_init) (defScope s_Stack_init) .none kV_Stack_init dc_Stack_init pm_Stack_init an_Stack_init cd_Stack_init ct_Stack_init, PySem.W.fnOf "step" "Stack.step" (defArgs s_Stack_step) (defBody s_Stack_step) (defScope s_Stack_step) .none kV_Stack_step dc_Stack_step pm_Stack_step an_Stack_step cd_Stack_step ct_Stack_step, PySem.W.fnOf "ended" "Stack.ended" (defArgs s_Stack_ended) (defBody s_Stack_ended) (defScope s_Stack_ended) .none kV_Stack_ended dc_Stack_ended pm_Stack_ended an_Stack_ended cd_Stack_ended ct_Stack_ended, PySem.W.fnOf "value" "Stack.value" (defArgs s_Stack_value) (defBody s_Stack_value) (defScope s_Stack_value) .none kV_Stack_value dc_Stack_value pm_Stack_value an_Stack_value cd_Stack_value ct_Stack_value, PySem.W.fnOf "_settled" "Stack._settled" (defArgs s_Stack__settled) (defBody s_Stack__settled) (defScope s_Stack__settled) .none kV_Stack__settled dc_Stack__settled pm_Stack__settled an_Stack__settled cd_Stack__settled ct_Stack__settled, PySem.W.fnOf "_end" "Stack._end" (defArgs s_Stack__end) (defBody s_Stack__end) (defScope s_Stack__end) .none kV_Stack__end dc_Stack__end pm_Stack__end an_Stack__end cd_Stack__end ct_Stack__end, PySem.W.fnOf "__init__" "Owners.__init__" (defArgs s_Owners_init) (defBody s_Owners_init) (defScope s_Owners_init) .none kV_Owners_init dc_Owners_init pm_Owners_init an_Owners_init cd_Owners_init ct_Owners_init, PySem.W.fnOf "__init__" "Hand.__init__" (defArgs s_Hand_init) (defBody s_Hand_init) (defScope s_Hand_init) .none kV_Hand_init dc_Hand_init pm_Hand_init an_Hand_init cd_Hand_init ct_Hand_init, PySem.W.fnOf "__init__" "Kernel.__init__" (defArgs s_Kernel_init) (defBody s_Kernel_init) (defScope s_Kernel_init) .none kV_Kernel_init dc_Kernel_init pm_Kernel_init an_Kernel_init cd_Kernel_init ct_Kernel_init, PySem.W.fnOf "next_ticket" "Kernel.next_ticket" (defArgs s_Kernel_next_ticket) (defBody s_Kernel_next_ticket) (defScope s_Kernel_next_ticket) .none kV_Kernel_next_ticket dc_Kernel_next_ticket pm_Kernel_next_ticket an_Kernel_next_ticket cd_Kernel_next_ticket ct_Kernel_next_ticket, PySem.W.fnOf "__init__" "Invalidating.__init__" (defArgs s_Invalidating_init) (defBody s_Invalidating_init) (defScope s_Invalidating_init) .none kV_Invalidating_init dc_Invalidating_init pm_Invalidating_init an_Invalidating_init cd_Invalidating_init ct_Invalidating_init, PySem.W.fnOf "request" "Invalidating.request" (defArgs s_Invalidating_request) (defBody s_Invalidating_request) (defScope s_Invalidating_request) .none kV_Invalidating_request dc_Invalidating_request pm_Invalidating_request an_Invalidating_request cd_Invalidating_request ct_Invalidating_request, PySem.W.fnOf "accept" "Invalidating.accept" (defArgs s_Invalidating_accept) (defBody s_Invalidating_accept) (defScope s_Invalidating_accept) .none kV_Invalidating_accept dc_Invalidating_accept pm_Invalidating_accept an_Invalidating_accept cd_Invalidating_accept ct_Invalidating_accept, PySem.W.fnOf "leads_to_frame" "leads_to_frame" (defArgs s_leads_to_frame) (defBody s_leads_to_frame) (defScope s_leads_to_frame) .none kV_leads_to_frame dc_leads_to_frame pm_leads_to_frame an_leads_to_frame cd_leads_to_frame ct_leads_to_frame, PySem.W.fnOf "__init__" "Buffer.__init__" (defArgs s_Buffer_init) (defBody s_Buffer_init) (defScope s_Buffer_init) .none kV_Buffer_init dc_Buffer_init pm_Buffer_init an_Buffer_init cd_Buffer_init ct_Buffer_init, PySem.W.fnOf "put" "Buffer.put" (defArgs s_Buffer_put) (defBody s_Buffer_put) (defScope s_Buffer_put) .none kV_Buffer_put dc_Buffer_put pm_Buffer_put an_Buffer_put cd_Buffer_put ct_Buffer_put, PySem.W.fnOf "drop" "Buffer.drop" (defArgs s_Buffer_drop) (defBody s_Buffer_drop) (defScope s_Buffer_drop) .none kV_Buffer_drop dc_Buffer_drop pm_Buffer_drop an_Buffer_drop cd_Buffer_drop ct_Buffer_drop, PySem.W.fnOf "entries" "Buffer.entries" (defArgs s_Buffer_entries) (defBody s_Buffer_entries) (defScope s_Buffer_entries) .none kV_Buffer_entries dc_Buffer_entries pm_Buffer_entries an_Buffer_entries cd_Buffer_entries ct_Buffer_entries, PySem.W.fnOf "is_between" "is_between" (defArgs s_is_between) (defBody s_is_between) (defScope s_is_between) .none kV_is_between dc_is_between pm_is_between an_is_between cd_is_between ct_is_between, PySem.W.fnOf "is_value" "is_value" (defArgs s_is_value) (defBody s_is_value) (defScope s_is_value) .none kV_is_value dc_is_value pm_is_value an_is_value cd_is_value ct_is_value, PySem.W.fnOf "__init__" "Sizes.__init__" (defArgs s_Sizes_init) (defBody s_Sizes_init) (defScope s_Sizes_init) .none kV_Sizes_init dc_Sizes_init pm_Sizes_init an_Sizes_init cd_Sizes_init ct_Sizes_init, PySem.W.fnOf "acknowledge" "Sizes.acknowledge" (defArgs s_Sizes_acknowledge) (defBody s_Sizes_acknowledge) (defScope s_Sizes_acknowledge) .none kV_Sizes_acknowledge dc_Sizes_acknowledge pm_Sizes_acknowledge an_Sizes_acknowledge cd_Sizes_acknowledge ct_Sizes_acknowledge, PySem.W.fnOf "word" "Sizes.word" (defArgs s_Sizes_word) (defBody s_Sizes_word) (defScope s_Sizes_word) .none kV_Sizes_word dc_Sizes_word pm_Sizes_word an_Sizes_word cd_Sizes_word ct_Sizes_word, PySem.W.fnOf "cells" "Sizes.cells" (defArgs s_Sizes_cells) (defBody s_Sizes_cells) (defScope s_Sizes_cells) .none kV_Sizes_cells dc_Sizes_cells pm_Sizes_cells an_Sizes_cells cd_Sizes_cells ct_Sizes_cells, PySem.W.fnOf "first_values" "first_values" (defArgs s_first_values) (defBody s_first_values) (defScope s_first_values) .none kV_first_values dc_first_values pm_first_values an_first_values cd_first_values ct_first_values, PySem.W.fnOf "bound_of" "bound_of" (defArgs s_bound_of) (defBody s_bound_of) (defScope s_bound_of) .none kV_bound_of dc_bound_of pm_bound_of an_bound_of cd_bound_of ct_bound_of, PySem.W.fnOf "is_part" "is_part" (defArgs s_is_part) (defBody s_is_part) (defScope s_is_part) .none kV_is_part dc_is_part pm_is_part an_is_part cd_is_part ct_is_part, PySem.W.fnOf "is_request" "is_request" (defArgs s_is_request) (defBody s_is_request) (defScope s_is_request) .none kV_is_request dc_is_request pm_is_request an_is_request cd_is_request ct_is_request, PySem.W.fnOf "__init__" "Memory.__init__" (defArgs s_Memory_init) (defBody s_Memory_init) (defScope s_Memory_init) .none kV_Memory_init dc_Memory_init pm_Memory_init an_Memory_init cd_Memory_init ct_Memory_init, PySem.W.fnOf "access" "Memory.access" (defArgs s_Memory_access) (defBody s_Memory_access) (defScope s_Memory_access) .none kV_Memory_access dc_Memory_access pm_Memory_access an_Memory_access cd_Memory_access ct_Memory_access, PySem.W.fnOf "peek" "Memory.peek" (defArgs s_Memory_peek) (defBody s_Memory_peek) (defScope s_Memory_peek) .none kV_Memory_peek dc_Memory_peek pm_Memory_peek an_Memory_peek cd_Memory_peek ct_Memory_peek, PySem.W.fnOf "_result" "Memory._result" (defArgs s_Memory__result) (defBody s_Memory__result) (defScope s_Memory__result) .none kV_Memory__result dc_Memory__result pm_Memory__result an_Memory__result cd_Memory__result ct_Memory__result, PySem.W.fnOf "_take" "Memory._take" (defArgs s_Memory__take) (defBody s_Memory__take) (defScope s_Memory__take) .none kV_Memory__take dc_Memory__take pm_Memory__take an_Memory__take cd_Memory__take ct_Memory__take, PySem.W.fnOf "_walk" "Memory._walk" (defArgs s_Memory__walk) (defBody s_Memory__walk) (defScope s_Memory__walk) .none kV_Memory__walk dc_Memory__walk pm_Memory__walk an_Memory__walk cd_Memory__walk ct_Memory__walk, PySem.W.fnOf "_law_tape" "_law_tape" (defArgs s__law_tape) (defBody s__law_tape) (defScope s__law_tape) .none kV__law_tape dc__law_tape pm__law_tape an__law_tape cd__law_tape ct__law_tape, PySem.W.fnOf "_law_at" "_law_at" (defArgs s__law_at) (defBody s__law_at) (defScope s__law_at) .none kV__law_at dc__law_at pm__law_at an__law_at cd__law_at ct__law_at, PySem.W.fnOf "_law_word" "_law_word" (defArgs s__law_word) (defBody s__law_word) (defScope s__law_word) .none kV__law_word dc__law_word pm__law_word an__law_word cd__law_word ct__law_word, PySem.W.fnOf "_law_other" "_law_other" (defArgs s__law_other) (defBody s__law_other) (defScope s__law_other) .none kV__law_other dc__law_other pm__law_other an__law_other cd__law_other ct__law_other, PySem.W.fnOf "_law_entries" "_law_entries" (defArgs s__law_entries) (defBody s__law_entries) (defScope s__law_entries) .none kV__law_entries dc__law_entries pm__law_entries an__law_entries cd__law_entries ct__law_entries, PySem.W.fnOf "_law_change" "_law_change" (defArgs s__law_change) (defBody s__law_change) (defScope s__law_change) .none kV__law_change dc__law_change pm__law_change an__law_change cd__law_change ct__law_change, PySem.W.fnOf "_law_run" "_law_run" (defArgs s__law_run) (defBody s__law_run) (defScope s__law_run) .none kV__law_run dc__law_run pm__law_run an__law_run cd__law_run ct__law_run, PySem.W.fnOf "law" "law" (defArgs s_law) (defBody s_law) (defScope s_law) .none kV_law dc_law pm_law an_law cd_law ct_law⟩ := {
    m_PageError := PySem.W.mg_of X G g_PageError
    m_NotValid := PySem.W.mg_of X G g_NotValid
    m_Box := PySem.W.mg_of X G g_Box
    m_Stack := PySem.W.mg_of X G g_Stack
    m_Owners := PySem.W.mg_of X G g_Owners
    m_Hand := PySem.W.mg_of X G g_Hand
    m_Kernel := PySem.W.mg_of X G g_Kernel
    m_Invalidating := PySem.W.mg_of X G g_Invalidating
    m_Buffer := PySem.W.mg_of X G g_Buffer
    m_Sizes := PySem.W.mg_of X G g_Sizes
    m_Memory := PySem.W.mg_of X G g_Memory
    F_PageError_init := fun_mk (st := s_PageError_init) l_PageError_init c_PageError_init k_PageError_init
    B_PageError_init := (fun_mk (st := s_PageError_init) l_PageError_init c_PageError_init k_PageError_init).binds (ps := ["self"]) fun _ _ _ _ _ _ us hl => match us, hl with | [_], _ => rfl
    F_is_whole := fun_mk (st := s_is_whole) l_is_whole c_is_whole k_is_whole
    B_is_whole := (fun_mk (st := s_is_whole) l_is_whole c_is_whole k_is_whole).binds (ps := ["value"]) fun _ _ _ _ _ _ us hl => match us, hl with | [_], _ => rfl
    m_is_whole := PySem.W.mg_of X G a_is_whole
    F_is_number_below := fun_mk (st := s_is_number_below) l_is_number_below c_is_number_below k_is_number_below
    B_is_number_below := (fun_mk (st := s_is_number_below) l_is_number_below c_is_number_below k_is_number_below).binds (ps := ["value", "many"]) fun _ _ _ _ _ _ us hl => match us, hl with | [_, _], _ => rfl
    m_is_number_below := PySem.W.mg_of X G a_is_number_below
    F_is_tuple_of := fun_mk (st := s_is_tuple_of) l_is_tuple_of c_is_tuple_of k_is_tuple_of
    B_is_tuple_of := (fun_mk (st := s_is_tuple_of) l_is_tuple_of c_is_tuple_of k_is_tuple_of).binds (ps := ["value", "many"]) fun _ _ _ _ _ _ us hl => match us, hl with | [_, _], _ => rfl
    m_is_tuple_of := PySem.W.mg_of X G a_is_tuple_of
    F_is_pair := fun_mk (st := s_is_pair) l_is_pair c_is_pair k_is_pair
    B_is_pair := (fun_mk (st := s_is_pair) l_is_pair c_is_pair k_is_pair).binds (ps := ["value"]) fun _ _ _ _ _ _ us hl => match us, hl with | [_], _ => rfl
    m_is_pair := PySem.W.mg_of X G a_is_pair
    F_is_letter := fun_mk (st := s_is_letter) l_is_letter c_is_letter k_is_letter
    B_is_letter := (fun_mk (st := s_is_letter) l_is_letter c_is_letter k_is_letter).binds (ps := ["value"]) fun _ _ _ _ _ _ us hl => match us, hl with | [_], _ => rfl
    m_is_letter := PySem.W.mg_of X G a_is_letter
    F_Box_init := fun_mk (st := s_Box_init) l_Box_init c_Box_init k_Box_init
    B_Box_init := (fun_mk (st := s_Box_init) l_Box_init c_Box_init k_Box_init).binds (ps := ["self"]) fun _ _ _ _ _ _ us hl => match us, hl with | [_], _ => rfl
    F_Box_send := fun_mk (st := s_Box_send) l_Box_send c_Box_send k_Box_send
    B_Box_send := (fun_mk (st := s_Box_send) l_Box_send c_Box_send k_Box_send).binds (ps := ["self", "letter"]) fun _ _ _ _ _ _ us hl => match us, hl with | [_, _], _ => rfl
    M_Box_send := ⟨a_Box_send, i_Box_send, k_Box_send⟩
    F_Box_take := fun_mk (st := s_Box_take) l_Box_take c_Box_take k_Box_take
    B_Box_take := (fun_mk (st := s_Box_take) l_Box_take c_Box_take k_Box_take).binds (ps := ["self"]) fun _ _ _ _ _ _ us hl => match us, hl with | [_], _ => rfl
    M_Box_take := ⟨a_Box_take, i_Box_take, k_Box_take⟩
    F_Box_letters := fun_mk (st := s_Box_letters) l_Box_letters c_Box_letters k_Box_letters
    B_Box_letters := (fun_mk (st := s_Box_letters) l_Box_letters c_Box_letters k_Box_letters).binds (ps := ["self"]) fun _ _ _ _ _ _ us hl => match us, hl with | [_], _ => rfl
    M_Box_letters := ⟨a_Box_letters, i_Box_letters, k_Box_letters⟩
    F_asks_for := fun_mk (st := s_asks_for) l_asks_for c_asks_for k_asks_for
    B_asks_for := (fun_mk (st := s_asks_for) l_asks_for c_asks_for k_asks_for).binds (ps := ["request", "name"]) fun _ _ _ _ _ _ us hl => match us, hl with | [_, _], _ => rfl
    m_asks_for := PySem.W.mg_of X G a_asks_for
    F_Stack_init := fun_mk (st := s_Stack_init) l_Stack_init c_Stack_init k_Stack_init
    B_Stack_init := (fun_mk (st := s_Stack_init) l_Stack_init c_Stack_init k_Stack_init).binds (ps := ["self", "machine"]) fun _ _ _ _ _ _ us hl => match us, hl with | [_, _], _ => rfl
    F_Stack_step := fun_mk (st := s_Stack_step) l_Stack_step c_Stack_step k_Stack_step
    B_Stack_step := (fun_mk (st := s_Stack_step) l_Stack_step c_Stack_step k_Stack_step).binds (ps := ["self", "memory", "processor"]) fun _ _ _ _ _ _ us hl => match us, hl with | [_, _, _], _ => rfl
    M_Stack_step := ⟨a_Stack_step, i_Stack_step, k_Stack_step⟩
    F_Stack_ended := fun_mk (st := s_Stack_ended) l_Stack_ended c_Stack_ended k_Stack_ended
    B_Stack_ended := (fun_mk (st := s_Stack_ended) l_Stack_ended c_Stack_ended k_Stack_ended).binds (ps := ["self"]) fun _ _ _ _ _ _ us hl => match us, hl with | [_], _ => rfl
    M_Stack_ended := ⟨a_Stack_ended, i_Stack_ended, k_Stack_ended⟩
    F_Stack_value := fun_mk (st := s_Stack_value) l_Stack_value c_Stack_value k_Stack_value
    B_Stack_value := (fun_mk (st := s_Stack_value) l_Stack_value c_Stack_value k_Stack_value).binds (ps := ["self"]) fun _ _ _ _ _ _ us hl => match us, hl with | [_], _ => rfl
    M_Stack_value := ⟨a_Stack_value, i_Stack_value, k_Stack_value⟩
    F_Stack__settled := fun_mk (st := s_Stack__settled) l_Stack__settled c_Stack__settled k_Stack__settled
    B_Stack__settled := (fun_mk (st := s_Stack__settled) l_Stack__settled c_Stack__settled k_Stack__settled).binds (ps := ["self"]) fun _ _ _ _ _ _ us hl => match us, hl with | [_], _ => rfl
    M_Stack__settled := ⟨a_Stack__settled, i_Stack__settled, k_Stack__settled⟩
    F_Stack__end := fun_mk (st := s_Stack__end) l_Stack__end c_Stack__end k_Stack__end
    B_Stack__end := (fun_mk (st := s_Stack__end) l_Stack__end c_Stack__end k_Stack__end).binds (ps := ["self", "value"]) fun _ _ _ _ _ _ us hl => match us, hl with | [_, _], _ => rfl
    M_Stack__end := ⟨a_Stack__end, i_Stack__end, k_Stack__end⟩
    F_Owners_init := fun_mk (st := s_Owners_init) l_Owners_init c_Owners_init k_Owners_init
    B_Owners_init := (fun_mk (st := s_Owners_init) l_Owners_init c_Owners_init k_Owners_init).binds (ps := ["self", "many"]) fun _ _ _ _ _ _ us hl => match us, hl with | [_, _], _ => rfl
    F_Hand_init := fun_mk (st := s_Hand_init) l_Hand_init c_Hand_init k_Hand_init
    B_Hand_init := (fun_mk (st := s_Hand_init) l_Hand_init c_Hand_init k_Hand_init).binds (ps := ["self", "many"]) fun _ _ _ _ _ _ us hl => match us, hl with | [_, _], _ => rfl
    F_Kernel_init := fun_mk (st := s_Kernel_init) l_Kernel_init c_Kernel_init k_Kernel_init
    B_Kernel_init := (fun_mk (st := s_Kernel_init) l_Kernel_init c_Kernel_init k_Kernel_init).binds (ps := ["self", "memory"]) fun _ _ _ _ _ _ us hl => match us, hl with | [_, _], _ => rfl
    F_Kernel_next_ticket := fun_mk (st := s_Kernel_next_ticket) l_Kernel_next_ticket c_Kernel_next_ticket k_Kernel_next_ticket
    B_Kernel_next_ticket := (fun_mk (st := s_Kernel_next_ticket) l_Kernel_next_ticket c_Kernel_next_ticket k_Kernel_next_ticket).binds (ps := ["self"]) fun _ _ _ _ _ _ us hl => match us, hl with | [_], _ => rfl
    M_Kernel_next_ticket := ⟨a_Kernel_next_ticket, i_Kernel_next_ticket, k_Kernel_next_ticket⟩
    F_Invalidating_init := fun_mk (st := s_Invalidating_init) l_Invalidating_init c_Invalidating_init k_Invalidating_init
    B_Invalidating_init := (fun_mk (st := s_Invalidating_init) l_Invalidating_init c_Invalidating_init k_Invalidating_init).binds (ps := ["self", "kernel", "processor", "pairs"]) fun _ _ _ _ _ _ us hl => match us, hl with | [_, _, _, _], _ => rfl
    F_Invalidating_request := fun_mk (st := s_Invalidating_request) l_Invalidating_request c_Invalidating_request k_Invalidating_request
    B_Invalidating_request := (fun_mk (st := s_Invalidating_request) l_Invalidating_request c_Invalidating_request k_Invalidating_request).binds (ps := ["self"]) fun _ _ _ _ _ _ us hl => match us, hl with | [_], _ => rfl
    M_Invalidating_request := ⟨a_Invalidating_request, i_Invalidating_request, k_Invalidating_request⟩
    F_Invalidating_accept := fun_mk (st := s_Invalidating_accept) l_Invalidating_accept c_Invalidating_accept k_Invalidating_accept
    B_Invalidating_accept := (fun_mk (st := s_Invalidating_accept) l_Invalidating_accept c_Invalidating_accept k_Invalidating_accept).binds (ps := ["self", "result"]) fun _ _ _ _ _ _ us hl => match us, hl with | [_, _], _ => rfl
    M_Invalidating_accept := ⟨a_Invalidating_accept, i_Invalidating_accept, k_Invalidating_accept⟩
    F_leads_to_frame := fun_mk (st := s_leads_to_frame) l_leads_to_frame c_leads_to_frame k_leads_to_frame
    B_leads_to_frame := (fun_mk (st := s_leads_to_frame) l_leads_to_frame c_leads_to_frame k_leads_to_frame).binds (ps := ["word"]) fun _ _ _ _ _ _ us hl => match us, hl with | [_], _ => rfl
    m_leads_to_frame := PySem.W.mg_of X G a_leads_to_frame
    F_Buffer_init := fun_mk (st := s_Buffer_init) l_Buffer_init c_Buffer_init k_Buffer_init
    B_Buffer_init := (fun_mk (st := s_Buffer_init) l_Buffer_init c_Buffer_init k_Buffer_init).binds (ps := ["self"]) fun _ _ _ _ _ _ us hl => match us, hl with | [_], _ => rfl
    F_Buffer_put := fun_mk (st := s_Buffer_put) l_Buffer_put c_Buffer_put k_Buffer_put
    B_Buffer_put := (fun_mk (st := s_Buffer_put) l_Buffer_put c_Buffer_put k_Buffer_put).binds (ps := ["self", "space", "page", "word"]) fun _ _ _ _ _ _ us hl => match us, hl with | [_, _, _, _], _ => rfl
    M_Buffer_put := ⟨a_Buffer_put, i_Buffer_put, k_Buffer_put⟩
    F_Buffer_drop := fun_mk (st := s_Buffer_drop) l_Buffer_drop c_Buffer_drop k_Buffer_drop
    B_Buffer_drop := (fun_mk (st := s_Buffer_drop) l_Buffer_drop c_Buffer_drop k_Buffer_drop).binds (ps := ["self", "pairs"]) fun _ _ _ _ _ _ us hl => match us, hl with | [_, _], _ => rfl
    M_Buffer_drop := ⟨a_Buffer_drop, i_Buffer_drop, k_Buffer_drop⟩
    F_Buffer_entries := fun_mk (st := s_Buffer_entries) l_Buffer_entries c_Buffer_entries k_Buffer_entries
    B_Buffer_entries := (fun_mk (st := s_Buffer_entries) l_Buffer_entries c_Buffer_entries k_Buffer_entries).binds (ps := ["self"]) fun _ _ _ _ _ _ us hl => match us, hl with | [_], _ => rfl
    M_Buffer_entries := ⟨a_Buffer_entries, i_Buffer_entries, k_Buffer_entries⟩
    F_is_between := fun_mk (st := s_is_between) l_is_between c_is_between k_is_between
    B_is_between := (fun_mk (st := s_is_between) l_is_between c_is_between k_is_between).binds (ps := ["value", "least", "most"]) fun _ _ _ _ _ _ us hl => match us, hl with | [_, _, _], _ => rfl
    m_is_between := PySem.W.mg_of X G a_is_between
    F_is_value := fun_mk (st := s_is_value) l_is_value c_is_value k_is_value
    B_is_value := (fun_mk (st := s_is_value) l_is_value c_is_value k_is_value).binds (ps := ["value"]) fun _ _ _ _ _ _ us hl => match us, hl with | [_], _ => rfl
    m_is_value := PySem.W.mg_of X G a_is_value
    F_Sizes_init := fun_mk (st := s_Sizes_init) l_Sizes_init c_Sizes_init k_Sizes_init
    B_Sizes_init := (fun_mk (st := s_Sizes_init) l_Sizes_init c_Sizes_init k_Sizes_init).binds (ps := ["self", "processors", "frames", "blocks"]) fun _ _ _ _ _ _ us hl => match us, hl with | [_, _, _, _], _ => rfl
    F_Sizes_acknowledge := fun_mk (st := s_Sizes_acknowledge) l_Sizes_acknowledge c_Sizes_acknowledge k_Sizes_acknowledge
    B_Sizes_acknowledge := (fun_mk (st := s_Sizes_acknowledge) l_Sizes_acknowledge c_Sizes_acknowledge k_Sizes_acknowledge).binds (ps := ["self", "processor"]) fun _ _ _ _ _ _ us hl => match us, hl with | [_, _], _ => rfl
    M_Sizes_acknowledge := ⟨a_Sizes_acknowledge, i_Sizes_acknowledge, k_Sizes_acknowledge⟩
    F_Sizes_word := fun_mk (st := s_Sizes_word) l_Sizes_word c_Sizes_word k_Sizes_word
    B_Sizes_word := (fun_mk (st := s_Sizes_word) l_Sizes_word c_Sizes_word k_Sizes_word).binds (ps := ["self", "space", "page"]) fun _ _ _ _ _ _ us hl => match us, hl with | [_, _, _], _ => rfl
    M_Sizes_word := ⟨a_Sizes_word, i_Sizes_word, k_Sizes_word⟩
    F_Sizes_cells := fun_mk (st := s_Sizes_cells) l_Sizes_cells c_Sizes_cells k_Sizes_cells
    B_Sizes_cells := (fun_mk (st := s_Sizes_cells) l_Sizes_cells c_Sizes_cells k_Sizes_cells).binds (ps := ["self"]) fun _ _ _ _ _ _ us hl => match us, hl with | [_], _ => rfl
    M_Sizes_cells := ⟨a_Sizes_cells, i_Sizes_cells, k_Sizes_cells⟩
    F_first_values := fun_mk (st := s_first_values) l_first_values c_first_values k_first_values
    B_first_values := (fun_mk (st := s_first_values) l_first_values c_first_values k_first_values).binds (ps := ["sizes"]) fun _ _ _ _ _ _ us hl => match us, hl with | [_], _ => rfl
    m_first_values := PySem.W.mg_of X G a_first_values
    F_bound_of := fun_mk (st := s_bound_of) l_bound_of c_bound_of k_bound_of
    B_bound_of := (fun_mk (st := s_bound_of) l_bound_of c_bound_of k_bound_of).binds (ps := ["kind", "sizes"]) fun _ _ _ _ _ _ us hl => match us, hl with | [_, _], _ => rfl
    m_bound_of := PySem.W.mg_of X G a_bound_of
    F_is_part := fun_mk (st := s_is_part) l_is_part c_is_part k_is_part
    B_is_part := (fun_mk (st := s_is_part) l_is_part c_is_part k_is_part).binds (ps := ["part", "kind", "sizes"]) fun _ _ _ _ _ _ us hl => match us, hl with | [_, _, _], _ => rfl
    m_is_part := PySem.W.mg_of X G a_is_part
    F_is_request := fun_mk (st := s_is_request) l_is_request c_is_request k_is_request
    B_is_request := (fun_mk (st := s_is_request) l_is_request c_is_request k_is_request).binds (ps := ["value", "sizes"]) fun _ _ _ _ _ _ us hl => match us, hl with | [_, _], _ => rfl
    m_is_request := PySem.W.mg_of X G a_is_request
    F_Memory_init := fun_mk (st := s_Memory_init) l_Memory_init c_Memory_init k_Memory_init
    B_Memory_init := (fun_mk (st := s_Memory_init) l_Memory_init c_Memory_init k_Memory_init).binds (ps := ["self", "sizes"]) fun _ _ _ _ _ _ us hl => match us, hl with | [_, _], _ => rfl
    F_Memory_access := fun_mk (st := s_Memory_access) l_Memory_access c_Memory_access k_Memory_access
    B_Memory_access := (fun_mk (st := s_Memory_access) l_Memory_access c_Memory_access k_Memory_access).binds (ps := ["self", "processor", "request"]) fun _ _ _ _ _ _ us hl => match us, hl with | [_, _, _], _ => rfl
    M_Memory_access := ⟨a_Memory_access, i_Memory_access, k_Memory_access⟩
    F_Memory_peek := fun_mk (st := s_Memory_peek) l_Memory_peek c_Memory_peek k_Memory_peek
    B_Memory_peek := (fun_mk (st := s_Memory_peek) l_Memory_peek c_Memory_peek k_Memory_peek).binds (ps := ["self", "cell"]) fun _ _ _ _ _ _ us hl => match us, hl with | [_, _], _ => rfl
    M_Memory_peek := ⟨a_Memory_peek, i_Memory_peek, k_Memory_peek⟩
    F_Memory__result := fun_mk (st := s_Memory__result) l_Memory__result c_Memory__result k_Memory__result
    B_Memory__result := (fun_mk (st := s_Memory__result) l_Memory__result c_Memory__result k_Memory__result).binds (ps := ["self", "processor", "request"]) fun _ _ _ _ _ _ us hl => match us, hl with | [_, _, _], _ => rfl
    M_Memory__result := ⟨a_Memory__result, i_Memory__result, k_Memory__result⟩
    F_Memory__take := fun_mk (st := s_Memory__take) l_Memory__take c_Memory__take k_Memory__take
    B_Memory__take := (fun_mk (st := s_Memory__take) l_Memory__take c_Memory__take k_Memory__take).binds (ps := ["self", "processor"]) fun _ _ _ _ _ _ us hl => match us, hl with | [_, _], _ => rfl
    M_Memory__take := ⟨a_Memory__take, i_Memory__take, k_Memory__take⟩
    F_Memory__walk := fun_mk (st := s_Memory__walk) l_Memory__walk c_Memory__walk k_Memory__walk
    B_Memory__walk := (fun_mk (st := s_Memory__walk) l_Memory__walk c_Memory__walk k_Memory__walk).binds (ps := ["self", "processor", "space", "page"]) fun _ _ _ _ _ _ us hl => match us, hl with | [_, _, _, _], _ => rfl
    M_Memory__walk := ⟨a_Memory__walk, i_Memory__walk, k_Memory__walk⟩
    F__law_tape := fun_mk (st := s__law_tape) l__law_tape c__law_tape k__law_tape
    B__law_tape := (fun_mk (st := s__law_tape) l__law_tape c__law_tape k__law_tape).binds (ps := ["script"]) fun _ _ _ _ _ _ us hl => match us, hl with | [_], _ => rfl
    m__law_tape := PySem.W.mg_of X G a__law_tape
    F__law_at := fun_mk (st := s__law_at) l__law_at c__law_at k__law_at
    B__law_at := (fun_mk (st := s__law_at) l__law_at c__law_at k__law_at).binds (ps := ["tape", "k"]) fun _ _ _ _ _ _ us hl => match us, hl with | [_, _], _ => rfl
    m__law_at := PySem.W.mg_of X G a__law_at
    F__law_word := fun_mk (st := s__law_word) l__law_word c__law_word k__law_word
    B__law_word := (fun_mk (st := s__law_word) l__law_word c__law_word k__law_word).binds (ps := ["number"]) fun _ _ _ _ _ _ us hl => match us, hl with | [_], _ => rfl
    m__law_word := PySem.W.mg_of X G a__law_word
    F__law_other := fun_mk (st := s__law_other) l__law_other c__law_other k__law_other
    B__law_other := (fun_mk (st := s__law_other) l__law_other c__law_other k__law_other).binds (ps := ["memory", "p", "number"]) fun _ _ _ _ _ _ us hl => match us, hl with | [_, _, _], _ => rfl
    m__law_other := PySem.W.mg_of X G a__law_other
    F__law_entries := fun_mk (st := s__law_entries) l__law_entries c__law_entries k__law_entries
    B__law_entries := (fun_mk (st := s__law_entries) l__law_entries c__law_entries k__law_entries).binds (ps := ["memory", "many", "pairs"]) fun _ _ _ _ _ _ us hl => match us, hl with | [_, _, _], _ => rfl
    m__law_entries := PySem.W.mg_of X G a__law_entries
    F__law_change := fun_mk (st := s__law_change) l__law_change c__law_change k__law_change
    B__law_change := (fun_mk (st := s__law_change) l__law_change c__law_change k__law_change).binds (ps := ["memory", "tape", "place"]) fun _ _ _ _ _ _ us hl => match us, hl with | [_, _, _], _ => rfl
    m__law_change := PySem.W.mg_of X G a__law_change
    F__law_run := fun_mk (st := s__law_run) l__law_run c__law_run k__law_run
    B__law_run := (fun_mk (st := s__law_run) l__law_run c__law_run k__law_run).binds (ps := ["memory", "stack", "many", "tape", "place"]) fun _ _ _ _ _ _ us hl => match us, hl with | [_, _, _, _, _], _ => rfl
    m__law_run := PySem.W.mg_of X G a__law_run
    F_law := fun_mk (st := s_law) l_law c_law k_law
    B_law := (fun_mk (st := s_law) l_law c_law k_law).binds (ps := ["script"]) fun _ _ _ _ _ _ us hl => match us, hl with | [_], _ => rfl
    m_law := PySem.W.mg_of X G a_law
    c_Box := ⟨pg_Box, hd_Box, po_Box, sa_Box⟩
    mk_Box := ⟨mk_Box, a_Box_init, i_Box_init, kc_Box⟩
    n_Box__letters := n_Box__letters
    c_Stack := ⟨pg_Stack, hd_Stack, po_Stack, sa_Stack⟩
    mk_Stack := ⟨mk_Stack, a_Stack_init, i_Stack_init, kc_Stack⟩
    n_Stack__machines := n_Stack__machines
    n_Stack__value := n_Stack__value
    c_Owners := ⟨pg_Owners, hd_Owners, po_Owners, sa_Owners⟩
    mk_Owners := ⟨mk_Owners, a_Owners_init, i_Owners_init, kc_Owners⟩
    n_Owners__owners := n_Owners__owners
    n_Owners__held := n_Owners__held
    c_Hand := ⟨pg_Hand, hd_Hand, po_Hand, sa_Hand⟩
    mk_Hand := ⟨mk_Hand, a_Hand_init, i_Hand_init, kc_Hand⟩
    n_Hand__many := n_Hand__many
    n_Hand__frame := n_Hand__frame
    c_Kernel := ⟨pg_Kernel, hd_Kernel, po_Kernel, sa_Kernel⟩
    mk_Kernel := ⟨mk_Kernel, a_Kernel_init, i_Kernel_init, kc_Kernel⟩
    n_Kernel_memory := n_Kernel_memory
    n_Kernel_sizes := n_Kernel_sizes
    n_Kernel_spaces := n_Kernel_spaces
    n_Kernel_frames := n_Kernel_frames
    n_Kernel_blocks := n_Kernel_blocks
    n_Kernel_hand := n_Kernel_hand
    n_Kernel_ticket := n_Kernel_ticket
    c_Invalidating := ⟨pg_Invalidating, hd_Invalidating, po_Invalidating, sa_Invalidating⟩
    mk_Invalidating := ⟨mk_Invalidating, a_Invalidating_init, i_Invalidating_init, kc_Invalidating⟩
    n_Invalidating__sizes := n_Invalidating__sizes
    n_Invalidating__others := n_Invalidating__others
    n_Invalidating__letter := n_Invalidating__letter
    n_Invalidating__sent := n_Invalidating__sent
    n_Invalidating__answered := n_Invalidating__answered
    n_Invalidating__number := n_Invalidating__number
    c_Buffer := ⟨pg_Buffer, hd_Buffer, po_Buffer, sa_Buffer⟩
    mk_Buffer := ⟨mk_Buffer, a_Buffer_init, i_Buffer_init, kc_Buffer⟩
    n_Buffer__entries := n_Buffer__entries
    c_Sizes := ⟨pg_Sizes, hd_Sizes, po_Sizes, sa_Sizes⟩
    mk_Sizes := ⟨mk_Sizes, a_Sizes_init, i_Sizes_init, kc_Sizes⟩
    n_Sizes_processors := n_Sizes_processors
    n_Sizes_frames := n_Sizes_frames
    n_Sizes_blocks := n_Sizes_blocks
    n_Sizes__acknowledges := n_Sizes__acknowledges
    n_Sizes__words := n_Sizes__words
    n_Sizes__frame_cells := n_Sizes__frame_cells
    n_Sizes__swap_blocks := n_Sizes__swap_blocks
    n_Sizes__file_blocks := n_Sizes__file_blocks
    c_Memory := ⟨pg_Memory, hd_Memory, po_Memory, sa_Memory⟩
    mk_Memory := ⟨mk_Memory, a_Memory_init, i_Memory_init, kc_Memory⟩
    n_Memory_sizes := n_Memory_sizes
    n_Memory_count := n_Memory_count
    n_Memory_buffers := n_Memory_buffers
    n_Memory_boxes := n_Memory_boxes
    n_Memory__cells := n_Memory__cells
    n_Memory__log := n_Memory__log
    k_CELLS := ⟨_, PySem.W.mg_of X G z_CELLS, t_CELLS, rfl⟩
    k_FILES := ⟨_, PySem.W.mg_of X G z_FILES, t_FILES, rfl⟩
    k_FILE_PAGES := ⟨_, PySem.W.mg_of X G z_FILE_PAGES, t_FILE_PAGES, rfl⟩
    k_MOST_ENTRIES := ⟨_, PySem.W.mg_of X G z_MOST_ENTRIES, t_MOST_ENTRIES, rfl⟩
    k_PAGES := ⟨_, PySem.W.mg_of X G z_PAGES, t_PAGES, rfl⟩
    k_SPACES := ⟨_, PySem.W.mg_of X G z_SPACES, t_SPACES, rfl⟩
    b_ValueError := PySem.W.mg_none_of X G z_ValueError
    b_abs := PySem.W.mg_none_of X G z_abs
    b_all := PySem.W.mg_none_of X G z_all
    b_bool := PySem.W.mg_none_of X G z_bool
    b_int := PySem.W.mg_none_of X G z_int
    b_isinstance := PySem.W.mg_none_of X G z_isinstance
    b_len := PySem.W.mg_none_of X G z_len
    b_list := PySem.W.mg_none_of X G z_list
    b_min := PySem.W.mg_none_of X G z_min
    b_range := PySem.W.mg_none_of X G z_range
    b_str := PySem.W.mg_none_of X G z_str
    b_tuple := PySem.W.mg_none_of X G z_tuple
    b_zip := PySem.W.mg_none_of X G z_zip
    vV := y_vV
    xi_NotValid := y_xi_NotValid
    xt_NotValid := y_xt_NotValid
    xs_NotValid := y_xs_NotValid
    xb_NotValid := y_xb_NotValid
    xy_NotValid := y_xy_NotValid
    xk_NotValid := y_xk_NotValid
    e1 := y_e1
    e2 := y_e2
    e4 := y_e4
    e5 := y_e5
    e6 := y_e6
    e7 := y_e7
    e8 := y_e8
    p1 := y_p1
    p2 := y_p2
    p3 := y_p3
    p4 := y_p4
    q4 := y_q4
    x_NotValid := ⟨⟨nmX, qX, NX, bsX, _, snX, subX, abX, colX, ddX, x0, x1, x2, x3, x5, y_xL, rfl⟩, y_xs_NotValid, y_xb_NotValid, y_xy_NotValid, y_xk_NotValid⟩
    e_NotValid := ⟨y_e1, y_e2, y_xb_NotValid, y_e4, y_e5, y_e6, y_e7, y_e8⟩
    pt := Pk.parts_mk (PySem.W.mg_of X G y_gP) y_sP y_lP y_t0 y_t1 y_t2 y_t3 y_t4 y_t5 y_t6 y_t7 y_t8
  }
  exact ⟨_, fun s v => .of_eq rfl, fun base _ _ => (ok_law (base := base) (P := l.prog) (w := w) T).mono (by decide)⟩
theorem walk {l : PySem.W.OpenLaw} {q : Program} {loose : List Str} {XP : (Str → Option Value) → Heap → Prop} {YP : World → Heap → Prop} {d : DefRec} {K : Params → PySem.W.Frag} (hn : l.most = some 63) (hdf : d.params.defaults = [])
    (hY : ∀ (w : World) (h : Heap), YP w h → (K w.params).In h)
    (F : ∀ (w : World) (mg : Str → Option Value) (fa : Addr) (h : Heap), (K w.params).In h → h.Ns mainGlobals mg → mg d.name = some (.ref fa) →
      ∃ fd : FuncData, (∀ (s : Shared) (u : Value), BindsTo s fd ⟨[u], []⟩ [("script", u)]) ∧ ∀ base : Heap, (K w.params).In base → base.Ns mainGlobals mg → FnOk l.prog w (K w.params) mg base CX0 14 fa fd ["script"] (spLaw (K w.params))) :
    PySem.W.WalkO q loose XP YP l.row.toRowW d [] (fun f vs => PySem.call f vs) :=
  L2.walk_of (n := 63) (k := 14) (x := "script") (CX := fun _ => CX0) (sp := fun w => spLaw (K w.params)) hn (by decide) hdf ⟨rfl, by decide, by decide⟩ hY F (fun _ _ a ns hl _ hS => ⟨a, ns, rfl, hS, hl, fun _ => rfl⟩) fun _ _ _ _ _ z => z
end K08

open PySem PySem.W PyProof.Rows in
set_option maxRecDepth 100000 in
set_option maxHeartbeats 0 in
theorem PySem.Challenge.cw_frametally_k08_whole_invalidations_holds : PySem.Challenge.rw_frametally_k08_whole_invalidations.Holds := by
  w_on; o_law; k_head; (case hw => w_witness2)
  k_fill
  refine K08.walk (l := PySem.Challenge.rw_frametally_k08_whole_invalidations) rfl rfl (fun w h Y => PySem.W.kIn_of Y) ?F
  case F =>
    intro w mg fa h KX G hmg
    refine' K08.all_mk KX G hmg ?g_PageError ?g_NotValid ?g_Box ?g_Stack ?g_Owners ?g_Hand ?g_Kernel ?g_Invalidating ?g_Buffer ?g_Sizes ?g_Memory ?a_PageError_init ?i_PageError_init ?l_PageError_init ?c_PageError_init ?k_PageError_init ?a_is_whole ?l_is_whole ?c_is_whole ?k_is_whole ?a_is_number_below ?l_is_number_below ?c_is_number_below ?k_is_number_below ?a_is_tuple_of ?l_is_tuple_of ?c_is_tuple_of ?k_is_tuple_of ?a_is_pair ?l_is_pair ?c_is_pair ?k_is_pair ?a_is_letter ?l_is_letter ?c_is_letter ?k_is_letter ?a_Box_init ?i_Box_init ?l_Box_init ?c_Box_init ?k_Box_init ?a_Box_send ?i_Box_send ?l_Box_send ?c_Box_send ?k_Box_send ?a_Box_take ?i_Box_take ?l_Box_take ?c_Box_take ?k_Box_take ?a_Box_letters ?i_Box_letters ?l_Box_letters ?c_Box_letters ?k_Box_letters ?a_asks_for ?l_asks_for ?c_asks_for ?k_asks_for ?a_Stack_init ?i_Stack_init ?l_Stack_init ?c_Stack_init ?k_Stack_init ?a_Stack_step ?i_Stack_step ?l_Stack_step ?c_Stack_step ?k_Stack_step ?a_Stack_ended ?i_Stack_ended ?l_Stack_ended ?c_Stack_ended ?k_Stack_ended ?a_Stack_value ?i_Stack_value ?l_Stack_value ?c_Stack_value ?k_Stack_value ?a_Stack__settled ?i_Stack__settled ?l_Stack__settled ?c_Stack__settled ?k_Stack__settled ?a_Stack__end ?i_Stack__end ?l_Stack__end ?c_Stack__end ?k_Stack__end ?a_Owners_init ?i_Owners_init ?l_Owners_init ?c_Owners_init ?k_Owners_init ?a_Hand_init ?i_Hand_init ?l_Hand_init ?c_Hand_init ?k_Hand_init ?a_Kernel_init ?i_Kernel_init ?l_Kernel_init ?c_Kernel_init ?k_Kernel_init ?a_Kernel_next_ticket ?i_Kernel_next_ticket ?l_Kernel_next_ticket ?c_Kernel_next_ticket ?k_Kernel_next_ticket ?a_Invalidating_init ?i_Invalidating_init ?l_Invalidating_init ?c_Invalidating_init ?k_Invalidating_init ?a_Invalidating_request ?i_Invalidating_request ?l_Invalidating_request ?c_Invalidating_request ?k_Invalidating_request ?a_Invalidating_accept ?i_Invalidating_accept ?l_Invalidating_accept ?c_Invalidating_accept ?k_Invalidating_accept ?a_leads_to_frame ?l_leads_to_frame ?c_leads_to_frame ?k_leads_to_frame ?a_Buffer_init ?i_Buffer_init ?l_Buffer_init ?c_Buffer_init ?k_Buffer_init ?a_Buffer_put ?i_Buffer_put ?l_Buffer_put ?c_Buffer_put ?k_Buffer_put ?a_Buffer_drop ?i_Buffer_drop ?l_Buffer_drop ?c_Buffer_drop ?k_Buffer_drop ?a_Buffer_entries ?i_Buffer_entries ?l_Buffer_entries ?c_Buffer_entries ?k_Buffer_entries ?a_is_between ?l_is_between ?c_is_between ?k_is_between ?a_is_value ?l_is_value ?c_is_value ?k_is_value ?a_Sizes_init ?i_Sizes_init ?l_Sizes_init ?c_Sizes_init ?k_Sizes_init ?a_Sizes_acknowledge ?i_Sizes_acknowledge ?l_Sizes_acknowledge ?c_Sizes_acknowledge ?k_Sizes_acknowledge ?a_Sizes_word ?i_Sizes_word ?l_Sizes_word ?c_Sizes_word ?k_Sizes_word ?a_Sizes_cells ?i_Sizes_cells ?l_Sizes_cells ?c_Sizes_cells ?k_Sizes_cells ?a_first_values ?l_first_values ?c_first_values ?k_first_values ?a_bound_of ?l_bound_of ?c_bound_of ?k_bound_of ?a_is_part ?l_is_part ?c_is_part ?k_is_part ?a_is_request ?l_is_request ?c_is_request ?k_is_request ?a_Memory_init ?i_Memory_init ?l_Memory_init ?c_Memory_init ?k_Memory_init ?a_Memory_access ?i_Memory_access ?l_Memory_access ?c_Memory_access ?k_Memory_access ?a_Memory_peek ?i_Memory_peek ?l_Memory_peek ?c_Memory_peek ?k_Memory_peek ?a_Memory__result ?i_Memory__result ?l_Memory__result ?c_Memory__result ?k_Memory__result ?a_Memory__take ?i_Memory__take ?l_Memory__take ?c_Memory__take ?k_Memory__take ?a_Memory__walk ?i_Memory__walk ?l_Memory__walk ?c_Memory__walk ?k_Memory__walk ?a__law_tape ?l__law_tape ?c__law_tape ?k__law_tape ?a__law_at ?l__law_at ?c__law_at ?k__law_at ?a__law_word ?l__law_word ?c__law_word ?k__law_word ?a__law_other ?l__law_other ?c__law_other ?k__law_other ?a__law_entries ?l__law_entries ?c__law_entries ?k__law_entries ?a__law_change ?l__law_change ?c__law_change ?k__law_change ?a__law_run ?l__law_run ?c__law_run ?k__law_run ?a_law ?l_law ?c_law ?k_law ?pg_Box ?hd_Box ?po_Box ?sa_Box ?mk_Box ?kc_Box ?n_Box__letters ?pg_Stack ?hd_Stack ?po_Stack ?sa_Stack ?mk_Stack ?kc_Stack ?n_Stack__machines ?n_Stack__value ?pg_Owners ?hd_Owners ?po_Owners ?sa_Owners ?mk_Owners ?kc_Owners ?n_Owners__owners ?n_Owners__held ?pg_Hand ?hd_Hand ?po_Hand ?sa_Hand ?mk_Hand ?kc_Hand ?n_Hand__many ?n_Hand__frame ?pg_Kernel ?hd_Kernel ?po_Kernel ?sa_Kernel ?mk_Kernel ?kc_Kernel ?n_Kernel_memory ?n_Kernel_sizes ?n_Kernel_spaces ?n_Kernel_frames ?n_Kernel_blocks ?n_Kernel_hand ?n_Kernel_ticket ?pg_Invalidating ?hd_Invalidating ?po_Invalidating ?sa_Invalidating ?mk_Invalidating ?kc_Invalidating ?n_Invalidating__sizes ?n_Invalidating__others ?n_Invalidating__letter ?n_Invalidating__sent ?n_Invalidating__answered ?n_Invalidating__number ?pg_Buffer ?hd_Buffer ?po_Buffer ?sa_Buffer ?mk_Buffer ?kc_Buffer ?n_Buffer__entries ?pg_Sizes ?hd_Sizes ?po_Sizes ?sa_Sizes ?mk_Sizes ?kc_Sizes ?n_Sizes_processors ?n_Sizes_frames ?n_Sizes_blocks ?n_Sizes__acknowledges ?n_Sizes__words ?n_Sizes__frame_cells ?n_Sizes__swap_blocks ?n_Sizes__file_blocks ?pg_Memory ?hd_Memory ?po_Memory ?sa_Memory ?mk_Memory ?kc_Memory ?n_Memory_sizes ?n_Memory_count ?n_Memory_buffers ?n_Memory_boxes ?n_Memory__cells ?n_Memory__log ?z_CELLS ?z_FILES ?z_FILE_PAGES ?z_MOST_ENTRIES ?z_PAGES ?z_SPACES ?z_ValueError ?z_abs ?z_all ?z_bool ?z_int ?z_isinstance ?z_len ?z_list ?z_min ?z_range ?z_str ?z_tuple ?z_zip ?y_xL ?y_vV ?y_xi_NotValid ?y_xt_NotValid ?y_xs_NotValid ?y_xb_NotValid ?y_xy_NotValid ?y_xk_NotValid ?y_e1 ?y_e2 ?y_e4 ?y_e5 ?y_e6 ?y_e7 ?y_e8 ?y_p1 ?y_p2 ?y_p3 ?y_p4 ?y_q4 ?y_gP ?y_sP ?y_lP ?y_t0 ?y_t1 ?y_t2 ?y_t3 ?y_t4 ?y_t5 ?y_t6 ?y_t7 ?y_t8
    (case g_PageError => k_is)
    (case g_NotValid => k_is)
    (case g_Box => k_is)
    (case g_Stack => k_is)
    (case g_Owners => k_is)
    (case g_Hand => k_is)
    (case g_Kernel => k_is)
    (case g_Invalidating => k_is)
    (case g_Buffer => k_is)
    (case g_Sizes => k_is)
    (case g_Memory => k_is)
    (case a_PageError_init => k_is)
    (case i_PageError_init => k_is)
    (case l_PageError_init => k_is)
    (case c_PageError_init => k_is)
    (case k_PageError_init => k_is)
    (case a_is_whole => k_is)
    (case l_is_whole => k_is)
    (case c_is_whole => k_is)
    (case k_is_whole => k_is)
    (case a_is_number_below => k_is)
    (case l_is_number_below => k_is)
    (case c_is_number_below => k_is)
    (case k_is_number_below => k_is)
    (case a_is_tuple_of => k_is)
    (case l_is_tuple_of => k_is)
    (case c_is_tuple_of => k_is)
    (case k_is_tuple_of => k_is)
    (case a_is_pair => k_is)
    (case l_is_pair => k_is)
    (case c_is_pair => k_is)
    (case k_is_pair => k_is)
    (case a_is_letter => k_is)
    (case l_is_letter => k_is)
    (case c_is_letter => k_is)
    (case k_is_letter => k_is)
    (case a_Box_init => k_is)
    (case i_Box_init => k_is)
    (case l_Box_init => k_is)
    (case c_Box_init => k_is)
    (case k_Box_init => k_is)
    (case a_Box_send => k_is)
    (case i_Box_send => k_is)
    (case l_Box_send => k_is)
    (case c_Box_send => k_is)
    (case k_Box_send => k_is)
    (case a_Box_take => k_is)
    (case i_Box_take => k_is)
    (case l_Box_take => k_is)
    (case c_Box_take => k_is)
    (case k_Box_take => k_is)
    (case a_Box_letters => k_is)
    (case i_Box_letters => k_is)
    (case l_Box_letters => k_is)
    (case c_Box_letters => k_is)
    (case k_Box_letters => k_is)
    (case a_asks_for => k_is)
    (case l_asks_for => k_is)
    (case c_asks_for => k_is)
    (case k_asks_for => k_is)
    (case a_Stack_init => k_is)
    (case i_Stack_init => k_is)
    (case l_Stack_init => k_is)
    (case c_Stack_init => k_is)
    (case k_Stack_init => k_is)
    (case a_Stack_step => k_is)
    (case i_Stack_step => k_is)
    (case l_Stack_step => k_is)
    (case c_Stack_step => k_is)
    (case k_Stack_step => k_is)
    (case a_Stack_ended => k_is)
    (case i_Stack_ended => k_is)
    (case l_Stack_ended => k_is)
    (case c_Stack_ended => k_is)
    (case k_Stack_ended => k_is)
    (case a_Stack_value => k_is)
    (case i_Stack_value => k_is)
    (case l_Stack_value => k_is)
    (case c_Stack_value => k_is)
    (case k_Stack_value => k_is)
    (case a_Stack__settled => k_is)
    (case i_Stack__settled => k_is)
    (case l_Stack__settled => k_is)
    (case c_Stack__settled => k_is)
    (case k_Stack__settled => k_is)
    (case a_Stack__end => k_is)
    (case i_Stack__end => k_is)
    (case l_Stack__end => k_is)
    (case c_Stack__end => k_is)
    (case k_Stack__end => k_is)
    (case a_Owners_init => k_is)
    (case i_Owners_init => k_is)
    (case l_Owners_init => k_is)
    (case c_Owners_init => k_is)
    (case k_Owners_init => k_is)
    (case a_Hand_init => k_is)
    (case i_Hand_init => k_is)
    (case l_Hand_init => k_is)
    (case c_Hand_init => k_is)
    (case k_Hand_init => k_is)
    (case a_Kernel_init => k_is)
    (case i_Kernel_init => k_is)
    (case l_Kernel_init => k_is)
    (case c_Kernel_init => k_is)
    (case k_Kernel_init => k_is)
    (case a_Kernel_next_ticket => k_is)
    (case i_Kernel_next_ticket => k_is)
    (case l_Kernel_next_ticket => k_is)
    (case c_Kernel_next_ticket => k_is)
    (case k_Kernel_next_ticket => k_is)
    (case a_Invalidating_init => k_is)
    (case i_Invalidating_init => k_is)
    (case l_Invalidating_init => k_is)
    (case c_Invalidating_init => k_is)
    (case k_Invalidating_init => k_is)
    (case a_Invalidating_request => k_is)
    (case i_Invalidating_request => k_is)
    (case l_Invalidating_request => k_is)
    (case c_Invalidating_request => k_is)
    (case k_Invalidating_request => k_is)
    (case a_Invalidating_accept => k_is)
    (case i_Invalidating_accept => k_is)
    (case l_Invalidating_accept => k_is)
    (case c_Invalidating_accept => k_is)
    (case k_Invalidating_accept => k_is)
    (case a_leads_to_frame => k_is)
    (case l_leads_to_frame => k_is)
    (case c_leads_to_frame => k_is)
    (case k_leads_to_frame => k_is)
    (case a_Buffer_init => k_is)
    (case i_Buffer_init => k_is)
    (case l_Buffer_init => k_is)
    (case c_Buffer_init => k_is)
    (case k_Buffer_init => k_is)
    (case a_Buffer_put => k_is)
    (case i_Buffer_put => k_is)
    (case l_Buffer_put => k_is)
    (case c_Buffer_put => k_is)
    (case k_Buffer_put => k_is)
    (case a_Buffer_drop => k_is)
    (case i_Buffer_drop => k_is)
    (case l_Buffer_drop => k_is)
    (case c_Buffer_drop => k_is)
    (case k_Buffer_drop => k_is)
    (case a_Buffer_entries => k_is)
    (case i_Buffer_entries => k_is)
    (case l_Buffer_entries => k_is)
    (case c_Buffer_entries => k_is)
    (case k_Buffer_entries => k_is)
    (case a_is_between => k_is)
    (case l_is_between => k_is)
    (case c_is_between => k_is)
    (case k_is_between => k_is)
    (case a_is_value => k_is)
    (case l_is_value => k_is)
    (case c_is_value => k_is)
    (case k_is_value => k_is)
    (case a_Sizes_init => k_is)
    (case i_Sizes_init => k_is)
    (case l_Sizes_init => k_is)
    (case c_Sizes_init => k_is)
    (case k_Sizes_init => k_is)
    (case a_Sizes_acknowledge => k_is)
    (case i_Sizes_acknowledge => k_is)
    (case l_Sizes_acknowledge => k_is)
    (case c_Sizes_acknowledge => k_is)
    (case k_Sizes_acknowledge => k_is)
    (case a_Sizes_word => k_is)
    (case i_Sizes_word => k_is)
    (case l_Sizes_word => k_is)
    (case c_Sizes_word => k_is)
    (case k_Sizes_word => k_is)
    (case a_Sizes_cells => k_is)
    (case i_Sizes_cells => k_is)
    (case l_Sizes_cells => k_is)
    (case c_Sizes_cells => k_is)
    (case k_Sizes_cells => k_is)
    (case a_first_values => k_is)
    (case l_first_values => k_is)
    (case c_first_values => k_is)
    (case k_first_values => k_is)
    (case a_bound_of => k_is)
    (case l_bound_of => k_is)
    (case c_bound_of => k_is)
    (case k_bound_of => k_is)
    (case a_is_part => k_is)
    (case l_is_part => k_is)
    (case c_is_part => k_is)
    (case k_is_part => k_is)
    (case a_is_request => k_is)
    (case l_is_request => k_is)
    (case c_is_request => k_is)
    (case k_is_request => k_is)
    (case a_Memory_init => k_is)
    (case i_Memory_init => k_is)
    (case l_Memory_init => k_is)
    (case c_Memory_init => k_is)
    (case k_Memory_init => k_is)
    (case a_Memory_access => k_is)
    (case i_Memory_access => k_is)
    (case l_Memory_access => k_is)
    (case c_Memory_access => k_is)
    (case k_Memory_access => k_is)
    (case a_Memory_peek => k_is)
    (case i_Memory_peek => k_is)
    (case l_Memory_peek => k_is)
    (case c_Memory_peek => k_is)
    (case k_Memory_peek => k_is)
    (case a_Memory__result => k_is)
    (case i_Memory__result => k_is)
    (case l_Memory__result => k_is)
    (case c_Memory__result => k_is)
    (case k_Memory__result => k_is)
    (case a_Memory__take => k_is)
    (case i_Memory__take => k_is)
    (case l_Memory__take => k_is)
    (case c_Memory__take => k_is)
    (case k_Memory__take => k_is)
    (case a_Memory__walk => k_is)
    (case i_Memory__walk => k_is)
    (case l_Memory__walk => k_is)
    (case c_Memory__walk => k_is)
    (case k_Memory__walk => k_is)
    (case a__law_tape => k_is)
    (case l__law_tape => k_is)
    (case c__law_tape => k_is)
    (case k__law_tape => k_is)
    (case a__law_at => k_is)
    (case l__law_at => k_is)
    (case c__law_at => k_is)
    (case k__law_at => k_is)
    (case a__law_word => k_is)
    (case l__law_word => k_is)
    (case c__law_word => k_is)
    (case k__law_word => k_is)
    (case a__law_other => k_is)
    (case l__law_other => k_is)
    (case c__law_other => k_is)
    (case k__law_other => k_is)
    (case a__law_entries => k_is)
    (case l__law_entries => k_is)
    (case c__law_entries => k_is)
    (case k__law_entries => k_is)
    (case a__law_change => k_is)
    (case l__law_change => k_is)
    (case c__law_change => k_is)
    (case k__law_change => k_is)
    (case a__law_run => k_is)
    (case l__law_run => k_is)
    (case c__law_run => k_is)
    (case k__law_run => k_is)
    (case a_law => k_is)
    (case l_law => k_is)
    (case c_law => k_is)
    (case k_law => k_is)
    (case pg_Box => k_is)
    (case hd_Box => k_is)
    (case po_Box => k_is)
    (case sa_Box => k_is)
    (case mk_Box => k_is)
    (case kc_Box => k_is)
    (case n_Box__letters => k_is)
    (case pg_Stack => k_is)
    (case hd_Stack => k_is)
    (case po_Stack => k_is)
    (case sa_Stack => k_is)
    (case mk_Stack => k_is)
    (case kc_Stack => k_is)
    (case n_Stack__machines => k_is)
    (case n_Stack__value => k_is)
    (case pg_Owners => k_is)
    (case hd_Owners => k_is)
    (case po_Owners => k_is)
    (case sa_Owners => k_is)
    (case mk_Owners => k_is)
    (case kc_Owners => k_is)
    (case n_Owners__owners => k_is)
    (case n_Owners__held => k_is)
    (case pg_Hand => k_is)
    (case hd_Hand => k_is)
    (case po_Hand => k_is)
    (case sa_Hand => k_is)
    (case mk_Hand => k_is)
    (case kc_Hand => k_is)
    (case n_Hand__many => k_is)
    (case n_Hand__frame => k_is)
    (case pg_Kernel => k_is)
    (case hd_Kernel => k_is)
    (case po_Kernel => k_is)
    (case sa_Kernel => k_is)
    (case mk_Kernel => k_is)
    (case kc_Kernel => k_is)
    (case n_Kernel_memory => k_is)
    (case n_Kernel_sizes => k_is)
    (case n_Kernel_spaces => k_is)
    (case n_Kernel_frames => k_is)
    (case n_Kernel_blocks => k_is)
    (case n_Kernel_hand => k_is)
    (case n_Kernel_ticket => k_is)
    (case pg_Invalidating => k_is)
    (case hd_Invalidating => k_is)
    (case po_Invalidating => k_is)
    (case sa_Invalidating => k_is)
    (case mk_Invalidating => k_is)
    (case kc_Invalidating => k_is)
    (case n_Invalidating__sizes => k_is)
    (case n_Invalidating__others => k_is)
    (case n_Invalidating__letter => k_is)
    (case n_Invalidating__sent => k_is)
    (case n_Invalidating__answered => k_is)
    (case n_Invalidating__number => k_is)
    (case pg_Buffer => k_is)
    (case hd_Buffer => k_is)
    (case po_Buffer => k_is)
    (case sa_Buffer => k_is)
    (case mk_Buffer => k_is)
    (case kc_Buffer => k_is)
    (case n_Buffer__entries => k_is)
    (case pg_Sizes => k_is)
    (case hd_Sizes => k_is)
    (case po_Sizes => k_is)
    (case sa_Sizes => k_is)
    (case mk_Sizes => k_is)
    (case kc_Sizes => k_is)
    (case n_Sizes_processors => k_is)
    (case n_Sizes_frames => k_is)
    (case n_Sizes_blocks => k_is)
    (case n_Sizes__acknowledges => k_is)
    (case n_Sizes__words => k_is)
    (case n_Sizes__frame_cells => k_is)
    (case n_Sizes__swap_blocks => k_is)
    (case n_Sizes__file_blocks => k_is)
    (case pg_Memory => k_is)
    (case hd_Memory => k_is)
    (case po_Memory => k_is)
    (case sa_Memory => k_is)
    (case mk_Memory => k_is)
    (case kc_Memory => k_is)
    (case n_Memory_sizes => k_is)
    (case n_Memory_count => k_is)
    (case n_Memory_buffers => k_is)
    (case n_Memory_boxes => k_is)
    (case n_Memory__cells => k_is)
    (case n_Memory__log => k_is)
    (case z_CELLS => k_is)
    (case z_FILES => k_is)
    (case z_FILE_PAGES => k_is)
    (case z_MOST_ENTRIES => k_is)
    (case z_PAGES => k_is)
    (case z_SPACES => k_is)
    (case z_ValueError => k_is)
    (case z_abs => k_is)
    (case z_all => k_is)
    (case z_bool => k_is)
    (case z_int => k_is)
    (case z_isinstance => k_is)
    (case z_len => k_is)
    (case z_list => k_is)
    (case z_min => k_is)
    (case z_range => k_is)
    (case z_str => k_is)
    (case z_tuple => k_is)
    (case z_zip => k_is)
    (case y_xL => k_is)
    (case y_vV => k_is)
    (case y_xi_NotValid => k_is)
    (case y_xt_NotValid => k_is)
    (case y_xs_NotValid => k_is)
    (case y_xb_NotValid => k_is)
    (case y_xy_NotValid => k_is)
    (case y_xk_NotValid => k_is)
    (case y_e1 => k_is)
    (case y_e2 => k_is)
    (case y_e4 => k_is)
    (case y_e5 => k_is)
    (case y_e6 => k_is)
    (case y_e7 => k_is)
    (case y_e8 => k_is)
    (case y_p1 => k_is)
    (case y_p2 => k_is)
    (case y_p3 => k_is)
    (case y_p4 => k_is)
    (case y_q4 => first | rfl | k_is)
    (case y_gP => k_is)
    (case y_sP => first | rfl | decide)
    (case y_lP => k_is)
    (case y_t0 => k_is)
    (case y_t1 => k_is)
    (case y_t2 => k_is)
    (case y_t3 => k_is)
    (case y_t4 => k_is)
    (case y_t5 => k_is)
    (case y_t6 => k_is)
    (case y_t7 => k_is)
    (case y_t8 => k_is)
