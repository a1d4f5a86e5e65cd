import PyProof.Rows.All
import Wide.All
import OpenK.AllK
import Wide.FinOn
import HandS.ForExc
import HandS.Comp
import HandS.IsInst
import HandS.ExcInit
import HandS.ExcIs
import HandS.CallSlots
import HandS.Iter
import HandS.Zip
import HandS.Deep
import HandS.ListItems
import KE.DataFind
import PyProof.RulesMatchSeq
import PyProof.Rows.MatchSeqLen
import PyProof.DictTable
import HandS.Dict
import HandS.More
import HandS.RaiseOp
import HandS.WrittenGet
import HandS.TupAny
import HandS.TupLe
import PySem.Challenge.RW_frametally_k04_whole_translations
set_option Elab.async false
set_option linter.all false
set_option maxRecDepth 100000
set_option maxHeartbeats 4000000
/-! Data that stands in the heap (None, bools, ints, texts, lists, tuples): how it stays, what shape it has, its type. -/
namespace Dk
open PySem PySem.Spec PyProof.Rows L2

theorem Same.tupS {K : PySem.W.Frag} {H H' : Hp} {a : Addr} {xs : List V} (e : Same H H') (h : SqT K H a xs) : SqT K H' a xs := by
  rcases h with (h | ⟨o, h⟩) | h
  · exact .inl (.inl (e _ _ h))
  · exact .inl (.inr ⟨o, e _ _ h⟩)
  · exact .inr h
theorem Same.new {H : Hp} {p : Addr} {o : HO} (h : H p = none) : Same H (upd H p o) := fun b u e => (upd_ne (ne_of_none e h)).trans e
/-- an object that H does not track may be written -/
theorem Same.put {H H' : Hp} {p : Addr} {o : HO} (e : Same H H') (h : H p = none) : Same H (upd H' p o) := fun b u k => (upd_ne (ne_of_none k h)).trans (e b u k)

mutual
theorem dp_mono {K : PySem.W.Frag} {H H' : Hp} (e : Same H H') : ∀ {d : PyData} {v : V}, Dp K H v d → Dp K H' v d
  | .none, _, h => by cases h; exact .non
  | .bool b, _, h => by cases h; exact .bl b
  | .int i, _, h => by cases h; exact .int i
  | .str x, _, h => by cases h; exact .str x
  | .list ds, _, h => by
    cases h with
    | lst s q => exact .lst (e.seq s) (dpAll_mono e q)
  | .tuple ds, _, h => by
    cases h with
    | tup s q => exact .tup (Same.tupS e s) (dpAll_mono e q)
  | .dict _, _, h => by cases h
theorem dpAll_mono {K : PySem.W.Frag} {H H' : Hp} (e : Same H H') : ∀ {ds : List PyData} {vs : List V}, DpAll K H vs ds → DpAll K H' vs ds
  | [], _, h => by cases h; exact .nil
  | d :: ds, _, h => by
    cases h with
    | cons a b => exact .cons (dp_mono e a) (dpAll_mono e b)
end
section
variable {K : PySem.W.Frag} {H : Hp}
theorem dpAll_app : ∀ {xs ys : List V} {ds es : List PyData}, DpAll K H xs ds → DpAll K H ys es → DpAll K H (xs ++ ys) (ds ++ es)
  | _, _, _, _, .nil, q => q
  | _, _, _, _, .cons a b, q => .cons a (dpAll_app b q)
theorem dpAll_len : ∀ {xs : List V} {ds : List PyData}, DpAll K H xs ds → xs.length = ds.length
  | _, _, .nil => rfl
  | _, _, .cons _ b => congrArg (· + 1) (dpAll_len b)
theorem dpAll_drop : ∀ {xs : List V} {ds : List PyData} (n : Nat), DpAll K H xs ds → DpAll K H (xs.drop n) (ds.drop n)
  | _, _, 0, q => q
  | _, _, n + 1, .nil => .nil
  | _, _, n + 1, .cons _ b => dpAll_drop n b
theorem dpAll_get : ∀ {xs : List V} {ds : List PyData} {i : Nat} {v : V}, DpAll K H xs ds → xs[i]? = some v → ∃ d, ds[i]? = some d ∧ Dp K H v d
  | _, _, _, _, .nil, e => by simp at e
  | _, _, 0, _, .cons a _, e => by
    simp at e
    subst e
    exact ⟨_, rfl, a⟩
  | _, _, i + 1, _, .cons _ b, e => by
    obtain ⟨d, h1, h2⟩ := dpAll_get (i := i) b (by simpa using e)
    exact ⟨d, by simpa using h1, h2⟩
theorem dpAll_ints (ns : List Int) : DpAll K H (ns.map V.int) (ns.map PyData.int) := by
  induction ns with
  | nil => exact .nil
  | cons n ns ih => exact .cons (.int n) ih
end

theorem take_snoc {α : Type} : ∀ {l : List α} {i : Nat} {x : α}, l[i]? = some x → l.take (i + 1) = l.take i ++ [x]
  | [], _, _, h => by simp at h
  | y :: l, 0, _, h => by
    simp at h
    subst h
    rfl
  | y :: l, i + 1, _, h => by
    have ih := take_snoc (l := l) (i := i) (by simpa using h)
    rw [List.take_succ_cons, ih, List.take_succ_cons]
    rfl

theorem ifF {c : Bool} {A B : Prop} (h : c = false) (b : B) : if c = true then A else B := by
  rw [h]
  exact iteF b
theorem ifT {c : Bool} {A B : Prop} (h : c = true) (b : A) : if c = true then A else B := by
  rw [h]
  exact iteT b
theorem upd_comm {H : Hp} {a b : Addr} {o u : HO} (h : a ≠ b) : upd (upd H a o) b u = upd (upd H b u) a o := by
  funext c
  by_cases ca : c = a
  · rw [ca, upd_ne h, upd_same, upd_same]
  · by_cases cb : c = b
    · rw [cb, upd_same, upd_ne (Ne.symm h), upd_same]
    · rw [upd_ne cb, upd_ne ca, upd_ne ca, upd_ne cb]
theorem upd_self {H : Hp} {a : Addr} {o : HO} (h : H a = some o) : upd H a o = H := by
  funext c
  by_cases ca : c = a
  · rw [ca, upd_same, h]
  · rw [upd_ne ca]

theorem cut1 (xs : List V) : cutV xs (some 1) none = xs.drop 1 := by
  unfold cutV
  have e1 : HT.sIx xs.length 0 (some 1) = min 1 xs.length := HT.sIx_nat xs.length 0 1
  rw [e1, HT.sIx_none]
  cases xs with
  | nil => rfl
  | cons x xs =>
    rw [show min 1 (x :: xs).length = 1 by simp only [List.length_cons]; omega]
    exact List.take_of_length_le (by rw [List.length_drop]; omega)

/-- a new object beside a list under construction at D -/
theorem new_under {G : Hp} {D p : Addr} {u o : HO} (gD : G D = none) (h : upd G D u p = none) : upd (upd G D u) p o = upd (upd G p o) D u ∧ G p = none ∧ upd G p o D = none := by
  have ne : p ≠ D := fun e => by
    rw [e, upd_same] at h
    cases h
  exact ⟨upd_comm (Ne.symm ne), (upd_ne ne).symm.trans h, (upd_ne (Ne.symm ne)).trans gD⟩

/-! ### tuples stay, whatever is written elsewhere -/
def IsT : HO → Prop
  | .tup _ => True
  | .frz _ u => IsT u
  | _ => False
def KT (H H' : Hp) : Prop := ∀ b o, H b = some o → IsT o → H' b = some o
theorem KT.refl (H : Hp) : KT H H := fun _ _ h _ => h
theorem KT.trans {H H1 H2 : Hp} (a : KT H H1) (b : KT H1 H2) : KT H H2 := fun c o h k => b c o (a c o h k) k
theorem KT.of {H H' : Hp} (e : Same H H') : KT H H' := fun b o h _ => e b o h
theorem KT.put {H : Hp} {a : Addr} {u : HO} (h : ∀ o, H a = some o → ¬ IsT o) : KT H (upd H a u) := fun b o e k => by
  have ne : b ≠ a := fun z => h o (z ▸ e) k
  rw [upd_ne ne]
  exact e
theorem KT.lst {H : Hp} {a : Addr} {xs : List V} {u : HO} (h : H a = some (.lst xs)) : KT H (upd H a u) := KT.put fun o e k => by
  rw [h] at e
  cases e
  exact k
theorem KT.ins {H : Hp} {a C dx : Addr} {fs : List (Str × V)} {u : HO} (h : H a = some (.ins C dx fs)) : KT H (upd H a u) := KT.put fun o e k => by
  rw [h] at e
  cases e
  exact k
theorem KT.new {H : Hp} {a : Addr} {u : HO} (h : H a = none) : KT H (upd H a u) := KT.of (Same.new h)
theorem KT.tupS {K : PySem.W.Frag} {H H' : Hp} {a : Addr} {xs : List V} (e : KT H H') (h : SqT K H a xs) : SqT K H' a xs := by
  rcases h with (h | ⟨o, h⟩) | h
  · exact .inl (.inl (e _ _ h True.intro))
  · exact .inl (.inr ⟨o, e _ _ h True.intro⟩)
  · exact .inr h
mutual
/-- no list, no dict within -/
def noL : PyData → Bool
  | .none => true
  | .bool _ => true
  | .int _ => true
  | .str _ => true
  | .list _ => false
  | .dict _ => false
  | .tuple ds => noLs ds
def noLs : List PyData → Bool
  | [] => true
  | d :: ds => noL d && noLs ds
end
mutual
theorem dp_keep {K : PySem.W.Frag} {H H' : Hp} (e : KT H H') : ∀ {d : PyData} {v : V}, noL d = true → Dp K H v d → Dp K H' v d
  | .none, _, _, h => by cases h; exact .non
  | .bool b, _, _, h => by cases h; exact .bl b
  | .int i, _, _, h => by cases h; exact .int i
  | .str x, _, _, h => by cases h; exact .str x
  | .list ds, _, n, h => by simp [noL] at n
  | .tuple ds, _, n, h => by
    cases h with
    | tup s q => exact .tup (e.tupS s) (dpAll_keep e (by simpa [noL] using n) q)
  | .dict _, _, _, h => by cases h
theorem dpAll_keep {K : PySem.W.Frag} {H H' : Hp} (e : KT H H') : ∀ {ds : List PyData} {vs : List V}, noLs ds = true → DpAll K H vs ds → DpAll K H' vs ds
  | [], _, _, h => by cases h; exact .nil
  | d :: ds, _, n, h => by
    cases h with
    | cons a b =>
      have n2 : noL d = true ∧ noLs ds = true := by simpa [noLs] using n
      exact .cons (dp_keep e n2.1 a) (dpAll_keep e n2.2 b)
end
theorem noLs_of : ∀ {ds : List PyData}, (∀ d ∈ ds, noL d = true) → noLs ds = true
  | [], _ => by simp only [noLs]
  | d :: ds, h => by
    simp only [noLs, h d (List.mem_cons_self ..), noLs_of fun x hx => h x (List.mem_cons_of_mem _ hx), Bool.and_self]
theorem noL_tup {ds : List PyData} (h : ∀ d ∈ ds, noL d = true) : noL (.tuple ds) = true := by
  simp only [noL]
  exact noLs_of h

/-! ### shapes -/
structure Sh (n : Nat) (d : PyData) : Prop where
  lay : d.canLay0 = true
  deep : d.depth ≤ n
theorem Sh.up {n m : Nat} {d : PyData} (h : Sh n d) (k : n ≤ m) : Sh m d := ⟨h.lay, Nat.le_trans h.deep k⟩
theorem sh_none : Sh 0 .none := ⟨by simp only [PyData.canLay0], by simp only [PyData.depth]; omega⟩
theorem sh_int (i : Int) : Sh 0 (.int i) := ⟨by simp only [PyData.canLay0], by simp only [PyData.depth]; omega⟩
theorem sh_bool (b : Bool) : Sh 0 (.bool b) := ⟨by simp only [PyData.canLay0], by simp only [PyData.depth]; omega⟩
theorem sh_all {n : Nat} : ∀ {ds : List PyData}, (∀ d ∈ ds, Sh n d) → PyData.canLayAll0 ds = true ∧ PyData.depthAll ds ≤ n
  | [], _ => ⟨by simp only [PyData.canLayAll0], by simp only [PyData.depthAll]; omega⟩
  | d :: ds, h => by
    have h1 := h d (List.mem_cons_self ..)
    obtain ⟨h2, h3⟩ := sh_all (n := n) (ds := ds) fun x hx => h x (List.mem_cons_of_mem _ hx)
    exact ⟨by simp only [PyData.canLayAll0, h1.lay, h2, Bool.and_self], by simp only [PyData.depthAll]; exact Nat.max_le.mpr ⟨h1.deep, h3⟩⟩
theorem sh_tup {n : Nat} {ds : List PyData} (h : ∀ d ∈ ds, Sh n d) : Sh (n + 1) (.tuple ds) := by
  obtain ⟨h1, h2⟩ := sh_all h
  exact ⟨by simp only [PyData.canLay0]; exact h1, by simp only [PyData.depth]; omega⟩
theorem sh_lst {n : Nat} {ds : List PyData} (h : ∀ d ∈ ds, Sh n d) : Sh (n + 1) (.list ds) := by
  obtain ⟨h1, h2⟩ := sh_all h
  exact ⟨by simp only [PyData.canLay0]; exact h1, by simp only [PyData.depth]; omega⟩
theorem Sh.ok {n : Nat} {d : PyData} (h : Sh n d) (k : n ≤ 64 := by decide) : SeqAt.shaped d = true := by
  unfold SeqAt.shaped
  rw [h.lay, decide_eq_true (Nat.le_trans h.deep k)]
  rfl
theorem Sh.refl {n : Nat} {d : PyData} (h : Sh n d) : PyData.eqv d d = true := SeqAt.eqv_refl d h.lay

/-! ### types -/
def tyN : PyData → String
  | .none => "NoneType"
  | .bool _ => "bool"
  | .int _ => "int"
  | .str _ => "str"
  | .list _ => "list"
  | .tuple _ => "tuple"
  | .dict _ => "dict"
theorem tyx {K : PySem.W.Frag} {H : Hp} {v : V} {d : PyData} (h : Dp K H v d) : TyX K H v (.type (tyN d)) := by
  cases h with
  | non => exact .base .non
  | bl b => exact .base (.bl b)
  | int i => exact .base (.int i)
  | str x => exact .base (.str x)
  | lst s _ =>
    rcases s with (s | ⟨o, s⟩) | s
    · exact .base (.lst s)
    · exact .base (.frz s)
    · obtain ⟨o, _, _, h1, h2, _⟩ := s
      exact .kList h1 h2
  | tup s _ =>
    rcases s with (s | ⟨o, s⟩) | s
    · exact .base (.tup s)
    · exact .fTuple s
    · obtain ⟨o, _, _, h1, h2, _⟩ := s
      exact .kTuple h1 h2

/-! ### isinstance over data -/
def isInt : PyData → Bool
  | .int _ => true
  | .bool _ => true
  | _ => false
def isBool : PyData → Bool
  | .bool _ => true
  | _ => false
def isTup : PyData → Bool
  | .tuple _ => true
  | _ => false
def isLst : PyData → Bool
  | .list _ => true
  | _ => false
def kits (c : String) : List (Option Bool) := ["NoneType", "bool", "int", "str", "list", "tuple", "dict"].map fun t => kitB t c
theorem kits_at {c : String} {b0 b1 b2 b3 b4 b5 b6 : Bool} (h : kits c = [some b0, some b1, some b2, some b3, some b4, some b5, some b6]) (d : PyData) :
    kitB (tyN d) c = some (match d with | .none => b0 | .bool _ => b1 | .int _ => b2 | .str _ => b3 | .list _ => b4 | .tuple _ => b5 | .dict _ => b6) := by
  simp only [kits, List.map_cons, List.map_nil, List.cons.injEq, and_true] at h
  obtain ⟨h0, h1, h2, h3, h4, h5, h6⟩ := h
  cases d
  · exact h0
  · exact h1
  · exact h2
  · exact h3
  · exact h4
  · exact h5
  · exact h6
section
variable {K : PySem.W.Frag}
theorem kit_int (d : PyData) : PySem.W.kitOne K (.type (tyN d)) (.type "int") = some (isInt d) := by
  refine (kit_ty (kits_at (by decide +kernel : kits "int" = [some false, some true, some true, some false, some false, some false, some false]) d)).trans ?_
  cases d <;> rfl
theorem kit_bool (d : PyData) : PySem.W.kitOne K (.type (tyN d)) (.type "bool") = some (isBool d) := by
  refine (kit_ty (kits_at (by decide +kernel : kits "bool" = [some false, some true, some false, some false, some false, some false, some false]) d)).trans ?_
  cases d <;> rfl
theorem kit_tup (d : PyData) : PySem.W.kitOne K (.type (tyN d)) (.type "tuple") = some (isTup d) := by
  refine (kit_ty (kits_at (by decide +kernel : kits "tuple" = [some false, some false, some false, some false, some false, some true, some false]) d)).trans ?_
  cases d <;> rfl
theorem kit_lst (d : PyData) : PySem.W.kitOne K (.type (tyN d)) (.type "list") = some (isLst d) := by
  refine (kit_ty (kits_at (by decide +kernel : kits "list" = [some false, some false, some false, some false, some true, some false, some false]) d)).trans ?_
  cases d <;> rfl
end
end Dk
/-! An own error class over ValueError that is made without an argument and keeps no field: C(), its __init__ walked as a def. -/
namespace Ek
open PySem PySem.Spec PyProof.Rows L2
section
variable {X : Cx} {a C : Addr} {p pos : Pos}

/-- behind C(): the error at a is let go, nothing else of the heap has changed its tracking -/
theorem let_go {pins : List (Addr × Obj)} {σ : L2.St} {H1 H2 : Hp} {u v w2 : Heap} {gA gB : Array GenState} {dA dB : Drawn} {tA tB : Nat} {oA oB : OsState}
    (I1 : Inv X pins σ H1 ⟨u, gA, dA, tA, oA⟩) (ha : u.objs.size ≤ a) (kp : ∀ b o, u.get? b = some o → v.get? b = some o)
    (un : Un (frs X.stack) [] (upd H1 a (exo a C none)) H2 v w2) (ok2 : HOk X.prog X.w H2 w2) (eo : oB = oA) (bare : AllBare gB) (ea : H2 a = some (exo a C none)) :
    ∃ (t0 : Addr) (G : Heap), Inv X pins σ (del H2 a) ⟨G, gB, dB, tB, oB⟩ ∧ (∀ b o, G.get? b = some o → w2.get? b = some o) ∧ G.get? a = none ∧
      w2.get? a = some ({ cls := .ref C, dict := none, data := .fields #[.ref t0, .none, .none, .none, .bool false, .none] } : Obj) := by
  obtain ⟨t0, he⟩ := exo_at ok2 ea
  have hn : H1 a = none := I1.hok.fresh ha
  obtain ⟨G, gIn, gOut⟩ := restrict w2 (fun b => decide (b ≠ a))
  have same : ∀ b, b ≠ a → G.get? b = w2.get? b := fun b hb => gIn b (decide_eq_true hb)
  have gone : G.get? a = none := gOut a (by simp)
  have old : ∀ {b : Addr} {o : Obj}, u.get? b = some o → b ≠ a := fun {b o} z => Nat.ne_of_lt (Nat.lt_of_lt_of_le (Heap.lt_size z) ha)
  have up : ∀ {b : Addr}, b ≠ a → H1 b = none → upd H1 a (exo a C none) b = none := fun {b} hb n => (upd_ne hb).trans n
  have U : Un (frs X.stack) [] H1 (del H2 a) u G :=
    { keep := fun b o z n hf hx => (same b (old z)).trans (un.keep b o (kp b o z) (up (old z) n) hf hx)
      slot := fun b o z n hf hx => by
        obtain ⟨sl, e⟩ := un.slot b o (kp b o z) (up (old z) n) hf hx
        exact ⟨sl, (same b (old z)).trans e⟩
      free := fun b o z n hx => (del_ne (old z)).trans (un.free b o (kp b o z) (up (old z) n) hx)
      there := fun b o z hx => by
        obtain ⟨o2, e⟩ := un.there b o (kp b o z) hx
        exact ⟨o2, (same b (old z)).trans e⟩
      tups := fun b xs z => (del_ne (ne_of_none z hn)).trans (un.tups b xs ((upd_ne (ne_of_none z hn)).trans z))
      frzs := fun b o y z => (del_ne (ne_of_none z hn)).trans (un.frzs b o y ((upd_ne (ne_of_none z hn)).trans z))
      tbls := fun b ps z => by
        obtain ⟨more, e⟩ := un.tbls b ps ((upd_ne (ne_of_none z hn)).trans z)
        exact ⟨more, (del_ne (ne_of_none z hn)).trans e⟩ }
  have noa : ∀ {b c : Addr}, H2 c = some (.own b) → c ≠ a := fun {b c} hc => at_ne ea hc exo_own
  have ok3 : HOk X.prog X.w (del H2 a) G := fun b o z => by
    have hba : b ≠ a := fun e => by
      rw [e, del_same] at z
      cases z
    rw [del_ne hba] at z
    refine (ok2 b o z).stay (fun c y hc q => ?_) (fun c hc => (del_ne (noa hc)).trans hc) (fun c xs hc => (del_ne (at_ne ea hc exo_tup)).trans hc)
    have hca : c ≠ a := by
      rcases hc with hc | hc
      · exact hc ▸ hba
      · exact noa hc
    exact (same c hca).trans q
  refine ⟨t0, G, I1.call' (ch := []) eo U ok3 bare (fun b z => absurd z (by simp)), fun b o z => ?_, gone, he⟩
  by_cases hba : b = a
  · rw [hba, gone] at z
    cases z
  · exact (same b hba).symm.trans z

/-- C(), where __init__ sets nothing -/
def tMk0 (C : Addr) (sp : Sp) : L2.St → Hp → XK → Prop := fun _ H Q => ∀ a, H a = none →
  sp [.ref a] (upd H a (exo a C none)) (fun v H2 => v = .non ∧ H2 a = some (exo a C none) ∧ Q (.ref C) none (del H2 a)) (fun _ _ _ => False)
theorem mk_exc0 {CX : CXT} {x : Str} {C fI : Addr} {k : Nat} {fd : FuncData} {ps : List Str} {sp : Sp} (T : OexC X.K C)
    (iC : PySem.W.findIn X.K (.ref C) "__init__" = some (some (.ref fI))) (tI : PySem.W.typeIn X.K (.ref fI) = some (.type "function"))
    (F1 : FnOk X.prog X.w X.K X.mg X.base CX k fI fd ps sp) (hr : Room (k + 1) X.A) (hb : Binds X.K fd ps []) (hx : Passes CX X (fun _ _ _ => False))
    (hg : Gl X x) (hm : X.mg x = some (.ref C)) (hdb : (x == ("__debug__" : Str)) = false := by decide) :
    PMk X (.Call (.Name x p) [] [] pos) (tMk0 C sp) := by
  intro pins s σ H Q I h
  obtain ⟨nm, q, N, bs, bm, sn, sub, ab, col, dd, k0, k1, k2, k3, k5, hC, hbm⟩ := T.cls
  refine wpAny_Call_Name_kw (ld_glob I hg hm ?_ hdb)
  refine PySem.W.callWith_K0 I.kIn T.kC ?_
  show wpAny _ _ (call (.ref C) []) _ _ _
  obtain ⟨hp, g, dr, tk, os⟩ := s
  have hsz : hp.objs.size ≤ hp.objs.size + 1 := Nat.le_succ _
  have hn : H (hp.objs.size + 1) = none := I.hok.fresh hsz
  have want := h (hp.objs.size + 1) hn
  have keep2 : ∀ b o, hp.get? b = some o → ((hp.push (PySem.W.kdv_tup [])).push (PySem.HandSPX.excO C hp.objs.size)).get? b = some o :=
    fun b o e => Heap.get?_push_of_some _ (Heap.get?_push_of_some _ e)
  have atE : ((hp.push (PySem.W.kdv_tup [])).push (PySem.HandSPX.excO C hp.objs.size)).get? (hp.objs.size + 1) = some (PySem.HandSPX.excO C hp.objs.size) := by heap_get
  have I2 : Inv X pins σ (upd H (hp.objs.size + 1) (exo (hp.objs.size + 1) C none)) ⟨(hp.push (PySem.W.kdv_tup [])).push (PySem.HandSPX.excO C hp.objs.size), g, dr, tk, os⟩ :=
    I.laid (t' := tk) (a := hp.objs.size + 1) (o := exo (hp.objs.size + 1) C none) (h' := (hp.push (PySem.W.kdv_tup [])).push (PySem.HandSPX.excO C hp.objs.size)) keep2 hsz (exo_ok atE)
  have r2 : Vals [V.ref (hp.objs.size + 1)] [Value.ref (hp.objs.size + 1)] := .cons rfl .nil
  have len1 : ([Value.ref (hp.objs.size + 1)] : List Value).length = ps.length := by
    have e := r2.length
    rw [F1.len _ _ _ _ want] at e
    exact e.symm
  refine wpAny_call (PySem.HandSPX.call_own (rest := []) F.excBase_ValueError (fun Y => PySem.HandSPX.refsVE_contains Y bm hbm) (I.kIn _ _ hC) (PySem.W.looks_findIn I.kIn iC)
    (fun self => PySem.W.bind_fn I.kIn self tI) (Nat.zero_le _) (codeAny_mono (F1.run _ X.stack _ _ ⟨[Value.ref (hp.objs.size + 1)], []⟩ [Value.ref (hp.objs.size + 1)] _ _ (fun _ _ _ => False)
      (hr.make C [] []) (I2.env0.make C [] []) (hb _ [Value.ref (hp.objs.size + 1)] I2.kIn len1) r2 want) fun r s2 back => ?_))
  cases r with
  | error er => exact hx pins σ _ _ er s2 I2 back
  | ok fl =>
    cases fl with
    | ret y =>
      obtain ⟨v, H2, os2, bare2, un2, hok2, rv, ev, ea, wish⟩ := back
      subst ev
      obtain ⟨h2, g2, d2, t2, o2⟩ := s2
      obtain ⟨t0, G, J, kG, gone, there⟩ := let_go (dB := d2) (tB := t2) I hsz keep2 un2 hok2 os2 bare2 ea
      exact ⟨rv, ⟨_, _, _, ⟨G, g2, d2, t2, o2⟩, _, .ref C, none, rfl, J, kG, gone, there, ⟨rfl, rfl⟩, rfl, rfl, del_same, rfl, bare2, raises_own T.exC T.tyC, wish⟩⟩
    | next => exact back.elim
    | brk => exact back.elim
    | cont => exact back.elim
end

section
variable {X : Cx} {CX : CXT} {k : Nat} {f C : Addr} {fd : FuncData} {ps : List Str} {sp : Sp} {E : L2.St → XK} {m : Str} {apos pos : Pos} {e o : Expr} {es : List Expr} {ta : TE} {t : TA}
/-- o.m(e, ..), where what is raised is wished for at the caller's slots -/
def tMethW (C : Addr) (m : Str) (sp : Sp) (E : L2.St → XK) (ta : TE) (t : TA) : TE := fun σ H Q => ta σ H fun x H1 =>
  ∃ a dx fs, x = .ref a ∧ H1 a = some (.ins C dx fs) ∧ fs.lookup m = none ∧ t σ H1 fun vs H2 => sp (x :: vs) H2 Q (E σ)
theorem pe_methW {pl : Sem Bool} (he : PE X o ta) (c : Cls X.K C) (hm : Meth X.K C m f) (F : FnOk X.prog X.w X.K X.mg X.base CX k f fd ps sp) (hr : Room k X.A) (hb : Binds X.K fd ps [])
    (hx : ∀ σ, PassesAt CX X σ (E σ)) (ha : PA X (e :: es) t)
    (hst : starEach (e :: es) X.env = (false, eval e X.env) :: starEach es X.env := by rfl) (hpl : (backTo pos (starEach es X.env)).any (·.1) = false := by rfl)
    (ht : eval (.Call (.Attribute o m apos) (e :: es) [] pos) X.env = (do
      let ov ← eval o X.env
      standAt apos.atName
      let fr ← holding [ov] (getMethod ov m pl)
      callWith pos fr.1 fr.2 (backTo pos (starEach (e :: es) X.env)) (backToKw pos (keywordEach [] X.env))) := by rfl) :
    PE X (.Call (.Attribute o m apos) (e :: es) [] pos) (tMethW C m sp E ta t) := by
  refine ⟨fun pins s σ H Q I h => ?_⟩
  refine PySem.W.methodCall_KW (pl := pl) (thn (he.run pins s σ H _ I h) fun u s1 ⟨x, H1, I1, rx, a, dx, fs, ex, ea, l, q⟩ => ?_) ht
  subst ex
  obtain rfl : u = Value.ref a := rx
  refine getmeth_ok I1 ea c hm l ?_
  refine PySem.W.callWith_K (first := [.ref a]) (h₀ := X.base) I.ok.mod.kin hm.kp (thn (ha.run pos pins s1 σ H1 _ I1 q) fun us s2 ⟨vs, H2, I2, r, q2⟩ => ⟨I2.kIn, ?_⟩) hst hpl
  exact run_fnS (us := .ref a :: us) (vs := .ref a :: vs) F hr hb (hx σ) I2 (.cons rfl r) q2
end

theorem hu65 {k : Nat} {A : Around} (hr : Room k A) : A.units + 65 < cLine := by
  have := hr.un
  omega
/-- a module's constant -/
theorem pe_con {X : Cx} {x : Str} {pos : Pos} {v : V} (hg : Gl X x) (h : ∃ u, X.mg x = some u ∧ RelV v u) (hdb : (x == ("__debug__" : Str)) = false := by decide) : PE X (.Name x pos) (tC v) := by
  obtain ⟨u, h1, h2⟩ := h
  exact pe_glob hg h1 h2 hdb
/-- a statement and what follows it, joined by a word of one's own: what follows is read once, whatever way led there -/
def tMid (t u : TS) : TS := fun D σ H => ∃ M : L2.St → Hp → Prop, t { D with nx := M } σ H ∧ ∀ σ2 H2, M σ2 H2 → u D σ2 H2
theorem pss_mid {X : Cx} {st : Stmt} {more : List Stmt} {t u : TS} (hs : PS X st t) (hm : PSs X more u) : PSs X (st :: more) (tMid t u) := ⟨fun pins s σ H D I ⟨M, hM, hu⟩ =>
  wpAny_execs_cons (thn (hs.run pins s σ H { D with nx := M } I hM) fun f s2 back => by
    cases f with
    | next =>
      obtain ⟨σ2, H2, I2, y⟩ := back
      exact hm.run pins s2 σ2 H2 D I2 (hu σ2 H2 y)
    | ret v => exact back
    | brk => exact back
    | cont => exact back)⟩
/-- a block that is walked under a condition which its reading brings -/
theorem pss_under {X : Cx} {sts : List Stmt} {P : Prop} {t : TS} (h : P → PSs X sts t) : PSs X sts (fun D σ H => P ∧ t D σ H) :=
  ⟨fun pins s σ H D I q => (h q.1).run pins s σ H D I q.2⟩
section
variable {X : Cx} {CX : CXT} {k : Nat} {f C : Addr} {fd : FuncData} {ps : List Str} {sp : Sp} {E : L2.St → XK} {x : Str} {p pos : Pos} {e : Expr} {es : List Expr} {t : TA}
/-- C(e, ..), where what is raised is wished for at the caller's slots -/
def tMakeW (C : Addr) (sp : Sp) (E : L2.St → XK) (t : TA) : TE := fun σ H Q => t σ H fun vs H1 => ∀ x dx, H1 x = none → H1 dx = none → dx ≠ x → sp (.ref x :: vs) (upd (upd H1 dx (.own x)) x (.ins C dx [])) (fun v H2 => v = .non ∧ Q (.ref x) H2) (E σ)
theorem run_makeW {pins : List (Addr × Obj)} {σ : L2.St} {H : Hp} {s : Shared} {Q : VK} {us : List Value} {vs : List V} (M : Mk X.K C f) (F : FnOk X.prog X.w X.K X.mg X.base CX k f fd ps sp) (hr : Room (k + 1) X.A) (hb : Binds X.K fd ps [])
    (hx : PassesAt CX X σ (E σ)) (I : Inv X pins σ H s) (r : Vals vs us)
    (h : ∀ x dx, H x = none → H dx = none → dx ≠ x → sp (.ref x :: vs) (upd (upd H dx (.own x)) x (.ins C dx [])) (fun v H2 => v = .non ∧ Q (.ref x) H2) (E σ)) :
    wpAny (model X.prog X.w) X.A (call (.ref C) us) (EP X pins σ Q) X.xe s := by
  have hq := h (s.heap.objs.size + 1) s.heap.objs.size (I.hok.fresh (Nat.le_succ _)) (I.hok.fresh (Nat.le_refl _)) (Nat.ne_of_lt (Nat.lt_succ_self _))
  have I2 := Inv.made (C := C) I
  have r2 : Vals (V.ref (s.heap.objs.size + 1) :: vs) (Value.ref (s.heap.objs.size + 1) :: us) := .cons rfl r
  have hl : (Value.ref (s.heap.objs.size + 1) :: us).length = ps.length := by
    have e := r2.length
    rw [F.len _ _ _ _ hq] at e
    exact e.symm
  have b := hb ((⟨_, s.gens, s.drawn, s.toks, s.os⟩ : Shared)) (Value.ref (s.heap.objs.size + 1) :: us) I2.kIn (by rw [List.append_nil]; exact hl)
  rw [List.append_nil] at b
  refine wpAny_call (make_map (f := f) I.kIn M.makes M.init (beq_iff_eq.mp M.fn) (codeAny_mono (F.run _ X.stack _ _ ⟨Value.ref (s.heap.objs.size + 1) :: us, []⟩ (Value.ref (s.heap.objs.size + 1) :: us) _ _ (E σ) (hr.make C us [])
    (I2.env0.make C us []) b r2 hq) fun r s' hq' => ?_))
  cases r with
  | error e => exact hx pins _ _ e s' I2 hq'
  | ok fl =>
    cases fl with
    | ret u =>
      obtain ⟨v, H', I3, rv, ev, q3⟩ := I2.after hq'
      subst ev
      exact ⟨rv, ⟨V.ref (s.heap.objs.size + 1), H', I3, rfl, q3⟩⟩
    | next => exact False.elim hq'
    | brk => exact False.elim hq'
    | cont => exact False.elim hq'
theorem pe_makeW (M : Mk X.K C f) (F : FnOk X.prog X.w X.K X.mg X.base CX k f fd ps sp) (hr : Room (k + 1) X.A) (hg : Gl X x) (hm : X.mg x = some (.ref C)) (hb : Binds X.K fd ps []) (hx : ∀ σ, PassesAt CX X σ (E σ))
    (ha : PA X (e :: es) t) (hdb : (x == ("__debug__" : Str)) = false := by decide) (he : starEach (e :: es) X.env = (false, eval e X.env) :: starEach es X.env := by rfl) (hpl : (backTo pos (starEach es X.env)).any (·.1) = false := by rfl) :
    PE X (.Call (.Name x p) (e :: es) [] pos) (tMakeW C sp E t) := by
  refine ⟨fun pins s σ H Q I h => ?_⟩
  refine wpAny_Call_Name_kw (ld_glob I hg hm ?_ hdb)
  refine PySem.W.callWith_K (h₀ := X.base) I.ok.mod.kin M.kp (thn (ha.run pos pins s σ H _ I h) fun us s1 ⟨vs, H1, I1, r, q⟩ => ⟨I1.kIn, ?_⟩) he hpl
  exact run_makeW M F hr hb (hx σ) I1 r q
end
end Ek
/-! Buffers' entries: tuples (space, page, frame, writable) in the heap; pairs; x not in a list or tuple of data; table words. -/
namespace Nk
open PySem PySem.Spec PyProof.Rows L2 Dk

/-- all but the object at b is as it was -/
def SameBut (b : Addr) (H H' : Hp) : Prop := ∀ x o, x ≠ b → H x = some o → H' x = some o
theorem Same.but {b : Addr} {H H' : Hp} (e : Same H H') : SameBut b H H' := fun x o _ h => e x o h
theorem SameBut.trans {b : Addr} {H H1 H2 : Hp} (e : SameBut b H H1) (f : SameBut b H1 H2) : SameBut b H H2 := fun x o n h => f x o n (e x o n h)
theorem SameBut.put {b p : Addr} {H H' : Hp} {o : HO} (e : SameBut b H H') (h : H p = none) : SameBut b H (upd H' p o) := fun x u n k => (upd_ne (ne_of_none k h)).trans (e x u n k)
theorem SameBut.own {b : Addr} {H H' : Hp} {o : HO} (e : SameBut b H H') : SameBut b H (upd H' b o) := fun x u n k => (upd_ne n).trans (e x u n k)
/-- tuples stay where the object at b is none -/
theorem SameBut.kt {b C dx : Addr} {fs : List (Str × V)} {H H' : Hp} (e : SameBut b H H') (h : H b = some (.ins C dx fs)) : KT H H' := fun x o k t => e x o (fun z => by
  rw [z, h] at k
  cases k
  exact t) k

structure En where
  (s p f : Int)
  w : Bool
def eV (e : En) : List V := [.int e.s, .int e.p, .int e.f, .bl e.w]
def eD (e : En) : PyData := .tuple [.int e.s, .int e.p, .int e.f, .bool e.w]
def aV (z : Addr × En) : V := .ref z.1
def EnAll (H : Hp) (zs : List (Addr × En)) : Prop := ∀ z ∈ zs, H z.1 = some (.tup (eV z.2))
theorem EnAll.kt {H H' : Hp} {zs : List (Addr × En)} (h : EnAll H zs) (e : KT H H') : EnAll H' zs := fun z hz => e _ _ (h z hz) True.intro
theorem EnAll.nil (H : Hp) : EnAll H [] := fun _ h => absurd h List.not_mem_nil
theorem EnAll.app {H : Hp} {zs ys : List (Addr × En)} (h : EnAll H zs) (k : EnAll H ys) : EnAll H (zs ++ ys) := fun z hz => (List.mem_append.mp hz).elim (h z) (k z)
theorem EnAll.one {H : Hp} {t : Addr} {e : En} (h : H t = some (.tup (eV e))) : EnAll H [(t, e)] := fun z hz => by
  rw [List.mem_singleton.mp hz]
  exact h
theorem EnAll.filter {H : Hp} {zs : List (Addr × En)} (h : EnAll H zs) (c : Addr × En → Bool) : EnAll H (zs.filter c) := fun z hz => h z (List.mem_filter.mp hz).1
theorem EnAll.drop {H : Hp} {zs : List (Addr × En)} (h : EnAll H zs) (n : Nat) : EnAll H (zs.drop n) := fun z hz => h z (List.mem_of_mem_drop hz)
theorem EnAll.dp {K : PySem.W.Frag} {H : Hp} : ∀ {zs : List (Addr × En)}, EnAll H zs → DpAll K H (zs.map aV) ((zs.map Prod.snd).map eD)
  | [], _ => .nil
  | z :: zs, h => .cons (.tup (SqT.of (h z (List.mem_cons_self ..))) (.cons (.int _) (.cons (.int _) (.cons (.int _) (.cons (.bl _) .nil))))) (EnAll.dp fun y hy => h y (List.mem_cons_of_mem _ hy))
theorem shE (e : En) : Sh 1 (eD e) := sh_tup fun d hd => by
  simp only [List.mem_cons, List.not_mem_nil, or_false] at hd
  rcases hd with rfl | rfl | rfl | rfl
  · exact sh_int _
  · exact sh_int _
  · exact sh_int _
  · exact sh_bool _
theorem shEs (es : List En) : Sh 2 (.list (es.map eD)) := sh_lst fun d hd => by
  obtain ⟨e, _, rfl⟩ := List.mem_map.mp hd
  exact shE e
theorem map_get {α β : Type} {f : α → β} {l : List α} {i : Nat} {y : β} (h : (l.map f)[i]? = some y) : ∃ x, l[i]? = some x ∧ y = f x := by
  rw [List.getElem?_map] at h
  cases e : l[i]? with
  | none =>
    rw [e] at h
    cases h
  | some x =>
    rw [e] at h
    exact ⟨x, rfl, (Option.some.inj h).symm⟩
theorem mem_of_get {α : Type} {l : List α} {i : Nat} {x : α} (h : l[i]? = some x) : x ∈ l := by
  obtain ⟨hi, e⟩ := List.getElem?_eq_some_iff.mp h
  exact e ▸ List.getElem_mem hi

/-! ### pairs -/
def pD (q : Int × Int) : PyData := .tuple [.int q.1, .int q.2]
theorem eqv_pD (q r : Int × Int) : PyData.eqv (pD q) (pD r) = decide (q = r) := by
  obtain ⟨a, b⟩ := q
  obtain ⟨c, d⟩ := r
  simp only [pD, PyData.eqv, PyData.eqvAll, Bool.and_true, Prod.mk.injEq]
  by_cases h1 : a = c
  · by_cases h2 : b = d
    · simp [h1, h2]
    · simp [h1, h2]
  · simp [h1]
theorem shP (q : Int × Int) : Sh 1 (pD q) := sh_tup fun d hd => by
  simp only [List.mem_cons, List.not_mem_nil, or_false] at hd
  rcases hd with rfl | rfl
  · exact sh_int _
  · exact sh_int _
theorem shPs (ps : List (Int × Int)) : Sh 2 (.list (ps.map pD)) := sh_lst fun d hd => by
  obtain ⟨e, _, rfl⟩ := List.mem_map.mp hd
  exact shP e
def keep (ps : List (Int × Int)) (e : En) : Bool := !ps.any fun q => decide (q = (e.s, e.p))
theorem any_pD (ps : List (Int × Int)) (e : En) : (!(ps.map pD).any fun d => PyData.eqv d (pD (e.s, e.p))) = keep ps e := by
  unfold keep
  rw [List.any_map]
  congr 2
  funext q
  exact eqv_pD q (e.s, e.p)

theorem filter_snd (c : En → Bool) : ∀ zs : List (Addr × En), (zs.filter fun z => c z.2).map Prod.snd = (zs.map Prod.snd).filter c
  | [] => rfl
  | z :: zs => by
    have ih := filter_snd c zs
    rw [List.filter_cons, List.map_cons, List.filter_cons]
    by_cases h : c z.2 = true
    · rw [if_pos h, if_pos h, List.map_cons, ih]
    · rw [if_neg h, if_neg h, ih]

/-! ### x not in y, y a list or a tuple of data -/
def rNiD (K : PySem.W.Frag) : R2 := fun x y H Q => ∃ d ds, Dp K H x d ∧ (Dp K H y (.list ds) ∨ Dp K H y (.tuple ds)) ∧ SeqAt.shaped d = true ∧ SeqAt.shaped (.list ds) = true ∧ Q (.bl (!ds.any fun z => PyData.eqv z d)) H
theorem op_niD {X : Cx} (hu : X.A.units + 65 < cLine) : OpR X (compareOp .NotIn) (rNiD X.K) := by
  intro pins s σ H x y v u Q I rx ry h
  obtain ⟨d, ds, hd, he, sd, se, q⟩ := h
  obtain ⟨as, r1⟩ := Dp.reads I d x v hd rx
  have c1 := SeqAt.canLay_of_shaped se
  have c2 := SeqAt.canLay_of_shaped sd
  have d2 := SeqAt.depth_of_shaped sd
  have room : X.A.units + 1 + min (PyData.depthAll ds) d.depth < cLine := by
    have := Nat.min_le_right (PyData.depthAll ds) d.depth
    omega
  rcases he with he | he
  · obtain ⟨bs, r2⟩ := Dp.reads I (.list ds) y u he ry
    exact SeqAt.notIn_list_reads r2 r1 (by simpa only [PyData.canLay0] using c1) c2 room ⟨.bl _, H, I, rfl, q⟩
  · obtain ⟨bs, r2⟩ := Dp.reads I (.tuple ds) y u he ry
    exact SeqAt.notIn_tuple_reads r2 r1 (by simpa only [PyData.canLay0] using c1) c2 room ⟨.bl _, H, I, rfl, q⟩

/-! ### table words of the law, the buffer's mirror -/
inductive Wd where
  | frame (f : Int) (w : Bool)
  | non
  | swap (n : Int)
  | file
  | held
def Wd.leads : Wd → Bool
  | .frame _ _ => true
  | _ => false
def wD : Wd → PyData
  | .frame f w => .tuple [.str "frame", .int f, .bool w]
  | .non => .none
  | .swap n => .tuple [.str "swap", .int n]
  | .file => .tuple [.str "file", .int 1, .int 2]
  | .held => .tuple [.str "held"]
def last2 (es : List En) : List En := if 2 < es.length then es.drop 1 else es
def putM (s p : Int) (x : Wd) (es : List En) : List En := match x with
  | .frame f w => last2 (es.filter (keep [(s, p)]) ++ [⟨s, p, f, w⟩])
  | _ => es.filter (keep [(s, p)])
theorem cut_last2 (xs : List V) : cutV xs (some (-2)) none = xs.drop (xs.length - 2) := by
  unfold cutV
  have e1 : HT.sIx xs.length 0 (some (-2)) = xs.length - 2 := by
    show (if (-2 : Int) < 0 then ((-2 : Int) + (xs.length : Int)).toNat else min (-2 : Int).toNat xs.length) = _
    rw [if_pos (by decide)]
    omega
  rw [e1, HT.sIx_none]
  refine List.take_of_length_le ?_
  rw [List.length_drop]
  omega
theorem last2_drop (es : List En) (e : En) {n : Nat} (hn : n = es.length + 1 ∧ es.length ≤ 2) : (es ++ [e]).drop (n - 2) = last2 (es ++ [e]) := by
  unfold last2
  rw [List.length_append, List.length_singleton]
  by_cases h : 2 < es.length + 1
  · rw [if_pos h, show n - 2 = 1 by omega]
  · rw [if_neg h, show n - 2 = 0 by omega]
    rfl
def midM (s p : Int) (x : Wd) (es : List En) : List En := match x with
  | .frame f w => es.filter (keep [(s, p)]) ++ [⟨s, p, f, w⟩]
  | _ => es.filter (keep [(s, p)])
theorem last2_mid (s p : Int) (x : Wd) {es : List En} (h : es.length ≤ 2) : last2 (midM s p x es) = putM s p x es := by
  have l : (es.filter (keep [(s, p)])).length ≤ 2 := Nat.le_trans (List.length_filter_le _ _) h
  cases x with
  | frame f w => rfl
  | _ => exact if_neg (by show ¬ 2 < (es.filter (keep [(s, p)])).length; omega)
theorem putM_len (s p : Int) (x : Wd) {es : List En} (h : es.length ≤ 2) : (putM s p x es).length ≤ 2 := by
  have l : (es.filter (keep [(s, p)])).length ≤ 2 := Nat.le_trans (List.length_filter_le _ _) h
  cases x with
  | frame f w =>
    show (last2 _).length ≤ 2
    unfold last2
    split
    · rw [List.length_drop, List.length_append, List.length_singleton]
      omega
    · omega
  | _ => exact l
theorem midM_len (s p : Int) (x : Wd) {es : List En} (h : es.length ≤ 2) : (midM s p x es).length ≤ 3 := by
  have l : (es.filter (keep [(s, p)])).length ≤ 2 := Nat.le_trans (List.length_filter_le _ _) h
  cases x with
  | frame f w =>
    show (_ ++ [_]).length ≤ 3
    rw [List.length_append, List.length_singleton]
    omega
  | _ => exact Nat.le_trans l (by decide)
theorem keep_one (s p : Int) (e : En) : keep [(s, p)] e = !decide ((e.s, e.p) = (s, p)) := by
  unfold keep
  simp only [List.any_cons, List.any_nil, Bool.or_false]
  by_cases h : (s, p) = (e.s, e.p)
  · rw [decide_eq_true h, decide_eq_true h.symm]
  · rw [decide_eq_false h, decide_eq_false (fun z => h z.symm)]
def fits (s p : Int) (wr : Bool) (e : En) : Bool := decide ((e.s, e.p) = (s, p)) && (e.w || !wr)
def frameM (s p : Int) (wr : Bool) (es : List En) : Option Int := (es.find? (fits s p wr)).map (·.f)
def optV : Option Int → V
  | none => .non
  | some i => .int i
theorem find_at {es : List En} {c : En → Bool} : ∀ {i : Nat} {e : En}, es[i]? = some e → (∀ y ∈ es.take i, c y = false) → c e = true → es.find? c = some e := by
  induction es with
  | nil => intro i e h _ _; simp at h
  | cons x es ih =>
    intro i e h hn hc
    cases i with
    | zero =>
      simp at h
      subst h
      simp [hc]
    | succ i =>
      have hx : c x = false := hn x (by simp)
      rw [List.find?_cons, hx]
      exact ih (i := i) (by simpa using h) (fun y hy => hn y (by simp [hy])) hc
theorem find_no {es : List En} {c : En → Bool} (h : ∀ y ∈ es, c y = false) : es.find? c = none := List.find?_eq_none.mpr fun y hy => by simp [h y hy]
end Nk
/-! Tests of data (whole numbers, tuples, words), the sizes' fields, promises that several laws share. -/
namespace Wk
open PySem PySem.Spec PyProof.Rows L2 Dk Ek Nk
/-! ### tests of data -/
def wholeD : PyData → Bool
  | .int _ => true
  | _ => false
def belowD (d : PyData) (n : Int) : Bool := match d with
  | .int i => decide (0 ≤ i) && decide (i < n)
  | _ => false
def tupD (d : PyData) (n : Int) : Bool := match d with
  | .tuple ds => decide ((ds.length : Int) = n)
  | _ => false
theorem tup2 {d : PyData} (h : tupD d 2 = true) : ∃ x y, d = .tuple [x, y] := by
  cases d with
  | tuple ds =>
    match ds, h with
    | [x, y], _ => exact ⟨x, y, rfl⟩
    | [], h => simp [tupD] at h
    | [x], h => simp [tupD] at h
    | x :: y :: z :: r, h =>
      simp only [tupD, List.length_cons, decide_eq_true_eq] at h
      omega
  | _ => simp [tupD] at h
theorem tup3 {d : PyData} (h : tupD d 3 = true) : ∃ x y z, d = .tuple [x, y, z] := by
  cases d with
  | tuple ds =>
    match ds, h with
    | [x, y, z], _ => exact ⟨x, y, z, rfl⟩
    | [], h => simp [tupD] at h
    | [x], h => simp [tupD] at h
    | [x, y], h => simp [tupD] at h
    | x :: y :: z :: u :: r, h =>
      simp only [tupD, List.length_cons, decide_eq_true_eq] at h
      omega
  | _ => simp [tupD] at h
/-- the value is the text z -/
def isS (d : PyData) (z : Str) : Bool := match d with
  | .str y => y == z
  | _ => false
theorem eqv_str (d : PyData) (z : Str) : PyData.eqv d (.str z) = isS d z := by
  cases d <;> simp [PyData.eqv, isS]
theorem isS_iff {d : PyData} {z : Str} : isS d z = true ↔ d = .str z := by
  cases d <;> simp [isS]
theorem Sh.elem {n : Nat} {ds : List PyData} {d : PyData} (h : Sh n (.tuple ds)) (m : d ∈ ds) : Sh n d := by
  have l := h.lay
  have e := h.deep
  simp only [PyData.canLay0] at l
  simp only [PyData.depth] at e
  have key : ∀ es : List PyData, d ∈ es → PyData.canLayAll0 es = true → d.canLay0 = true ∧ d.depth ≤ PyData.depthAll es := by
    intro es
    induction es with
    | nil => intro m _; exact absurd m List.not_mem_nil
    | cons x es ih =>
      intro m k
      simp only [PyData.canLayAll0, Bool.and_eq_true] at k
      simp only [PyData.depthAll]
      rcases List.mem_cons.mp m with rfl | m
      · exact ⟨k.1, Nat.le_max_left _ _⟩
      · obtain ⟨h1, h2⟩ := ih m k.2
        exact ⟨h1, Nat.le_trans h2 (Nat.le_max_right _ _)⟩
  obtain ⟨h1, h2⟩ := key ds m l
  exact ⟨h1, by omega⟩
theorem sh_str (s : Str) (h : PyData.canLay0 (.str s) = true) : Sh 0 (.str s) := ⟨h, by simp only [PyData.depth]; omega⟩
/-! ### promises of the small tests -/
def spNop (K : PySem.W.Frag) : Sp := fun vs H Q _ => ∃ (a C : Addr), vs = [.ref a] ∧ OexC K C ∧ H a = some (exo a C none) ∧ Q .non H
def spWhole (K : PySem.W.Frag) : Sp := fun vs H Q _ => ∃ (v : V) (d : PyData), vs = [v] ∧ Dp K H v d ∧ Q (.bl (wholeD d)) H
def spBelow (K : PySem.W.Frag) : Sp := fun vs H Q _ => ∃ (v : V) (d : PyData) (n : Int), vs = [v, .int n] ∧ Dp K H v d ∧ Q (.bl (belowD d n)) H
def spTupOf (K : PySem.W.Frag) : Sp := fun vs H Q _ => ∃ (v : V) (d : PyData) (n : Int), vs = [v, .int n] ∧ Dp K H v d ∧ Q (.bl (tupD d n)) H
def spBetween : Sp := fun vs H Q _ => ∃ v l m : Int, vs = [.int v, .int l, .int m] ∧ Q (.bl (decide (l ≤ v) && decide (v ≤ m))) H
/-! ### words that lead to frames -/
def leadsD : PyData → Bool
  | .tuple [x, _, _] => isS x "frame"
  | _ => false
theorem leads_no {d : PyData} (h : tupD d 3 = false) : leadsD d = false := by
  unfold leadsD
  split
  · simp [tupD] at h
  · rfl
theorem leads_yes {d : PyData} (h : leadsD d = true) : ∃ f w, d = .tuple [.str "frame", f, w] := by
  unfold leadsD at h
  split at h
  · rename_i x f w
    rw [isS_iff] at h
    exact ⟨f, w, by rw [h]⟩
  · cases h
def spLeads (K : PySem.W.Frag) : Sp := fun vs H Q _ => ∃ (y : V) (d : PyData), vs = [y] ∧ Dp K H y d ∧ Sh 60 d ∧ Q (.bl (leadsD d)) H
/-! ### the sizes -/
def szF (p f b : Int) : List (Str × V) := [("processors", .int p), ("frames", .int f), ("blocks", .int b), ("_acknowledges", .int 1), ("_words", .int (1 + p)), ("_frame_cells", .int (1 + p + 4 * 8)),
  ("_swap_blocks", .int (1 + p + 4 * 8 + 2 * f)), ("_file_blocks", .int (1 + p + 4 * 8 + 2 * f + b))]
def okSz (p f b : Int) : Bool := decide (1 ≤ p) && decide (p ≤ 3) && (decide (2 ≤ f) && decide (f ≤ 12)) && (decide (0 ≤ b) && decide (b ≤ 12))
def spSizesInit (C N : Addr) : Sp := fun vs H Q E => ∃ (z dx : Addr) (p f b : Int), vs = [.ref z, .int p, .int f, .int b] ∧ H z = some (.ins C dx []) ∧
  (okSz p f b = true → ∀ H', SameBut z H H' → H' z = some (.ins C dx (szF p f b)) → Q .non H') ∧ (okSz p f b = false → ∀ H', Same H H' → E (.ref N) none H')
/-! ### table words -/
def isStr : PyData → Bool
  | .str _ => true
  | _ => false
theorem kit_str {K : PySem.W.Frag} (d : PyData) : PySem.W.kitOne K (.type (tyN d)) (.type "str") = some (isStr d) := by
  refine (kit_ty (kits_at (by decide +kernel : kits "str" = [some false, some false, some false, some true, some false, some false, some false]) d)).trans ?_
  cases d <;> rfl
def frB (F : Int) : List PyData → Bool
  | [x, y] => belowD x F && isBool y
  | _ => false
def swB (B : Int) : List PyData → Bool
  | [x] => belowD x B
  | _ => false
def flB : List PyData → Bool
  | [x, y] => belowD x 2 && belowD y 4
  | _ => false
def wordB (F B : Int) (x : PyData) (r : List PyData) : Bool :=
  if isS x "frame" = true then frB F r else if isS x "swap" = true then swB B r else if isS x "file" = true then flB r else isS x "held" && r.isEmpty
def wordM (F B : Int) : PyData → Bool
  | .none => true
  | .tuple (x :: r) => wordB F B x r
  | _ => false
theorem frB_no {F : Int} {r : List PyData} (h : r.length ≠ 2) : frB F r = false := by
  unfold frB
  split
  · exact absurd rfl h
  · rfl
theorem swB_no {F : Int} {r : List PyData} (h : r.length ≠ 1) : swB F r = false := by
  unfold swB
  split
  · exact absurd rfl h
  · rfl
theorem flB_no {r : List PyData} (h : r.length ≠ 2) : flB r = false := by
  unfold flB
  split
  · exact absurd rfl h
  · rfl
theorem len2 {r : List PyData} (h : r.length = 2) : ∃ x y, r = [x, y] := by
  match r, h with
  | [x, y], _ => exact ⟨x, y, rfl⟩
theorem len1 {r : List PyData} (h : r.length = 1) : ∃ x, r = [x] := by
  match r, h with
  | [x], _ => exact ⟨x, rfl⟩
theorem isS_ne {d : PyData} {y z : Str} (h : isS d y = true) (n : (y == z) = false) : isS d z = false := by
  rw [isS_iff] at h
  subst h
  exact n
/-- the words whose numbers exist -/
inductive W2 where
  | frame (f : Int) (w : Bool)
  | non
  | swap (n : Int)
  | file (f p : Int)
  | held
def w2D : W2 → PyData
  | .frame f w => .tuple [.str "frame", .int f, .bool w]
  | .non => .none
  | .swap n => .tuple [.str "swap", .int n]
  | .file f p => .tuple [.str "file", .int f, .int p]
  | .held => .tuple [.str "held"]
theorem below_int {d : PyData} {n : Int} (h : belowD d n = true) : ∃ i, d = .int i := by
  cases d with
  | int i => exact ⟨i, rfl⟩
  | _ => simp [belowD] at h
theorem bool_of {d : PyData} (h : isBool d = true) : ∃ b, d = .bool b := by
  cases d with
  | bool b => exact ⟨b, rfl⟩
  | _ => simp [isBool] at h
theorem w2_of {F B : Int} {d : PyData} (h : wordM F B d = true) : ∃ x, d = w2D x := by
  unfold wordM at h
  split at h
  · exact ⟨.non, rfl⟩
  · rename_i x r
    unfold wordB at h
    split at h
    · rename_i e
      rw [isS_iff] at e
      unfold frB at h
      split at h
      · rename_i u v
        rw [Bool.and_eq_true] at h
        obtain ⟨i, rfl⟩ := below_int h.1
        obtain ⟨b, rfl⟩ := bool_of h.2
        exact ⟨.frame i b, by rw [e]; rfl⟩
      · cases h
    · split at h
      · rename_i e
        rw [isS_iff] at e
        unfold swB at h
        split at h
        · obtain ⟨i, rfl⟩ := below_int h
          exact ⟨.swap i, by rw [e]; rfl⟩
        · cases h
      · split at h
        · rename_i e
          rw [isS_iff] at e
          unfold flB at h
          split at h
          · rw [Bool.and_eq_true] at h
            obtain ⟨i, rfl⟩ := below_int h.1
            obtain ⟨j, rfl⟩ := below_int h.2
            exact ⟨.file i j, by rw [e]; rfl⟩
          · cases h
        · rw [Bool.and_eq_true, isS_iff] at h
          obtain ⟨e, e2⟩ := h
          exact ⟨.held, by rw [e, List.isEmpty_iff.mp e2]; rfl⟩
  · cases h
def W2.frame? : W2 → Option Int
  | .frame f _ => some f
  | _ => none
def W2.block? : W2 → Option Int
  | .swap n => some n
  | _ => none
def W2.wr : W2 → Bool
  | .frame _ w => w
  | _ => false
def W2.less : W2 → W2
  | .frame f _ => .frame f false
  | x => x
def W2.leads : W2 → Bool
  | .frame _ _ => true
  | _ => false
theorem leads_w2 (x : W2) : leadsD (w2D x) = x.leads := by
  cases x with
  | frame f w => rfl
  | file f p => exact (by decide : isS (.str "file") "frame" = false)
  | _ => rfl
theorem sh_c {n : Nat} {d : PyData} {ds : List PyData} (h : Sh n d) (k : ∀ x ∈ ds, Sh n x) : ∀ x ∈ d :: ds, Sh n x := fun x hx => (List.mem_cons.mp hx).elim (fun e => e ▸ h) (k x)
theorem sh_n {n : Nat} : ∀ x ∈ ([] : List PyData), Sh n x := fun _ h => absurd h List.not_mem_nil
theorem sh_w2 (x : W2) : Sh 1 (w2D x) := by
  have sF : Sh 0 (.str "frame") := sh_str _ (by decide +kernel)
  have sS : Sh 0 (.str "swap") := sh_str _ (by decide +kernel)
  have sL : Sh 0 (.str "file") := sh_str _ (by decide +kernel)
  have sH : Sh 0 (.str "held") := sh_str _ (by decide +kernel)
  cases x with
  | non => exact sh_none.up (by decide)
  | frame f w => exact sh_tup (sh_c sF (sh_c (sh_int _) (sh_c (sh_bool _) sh_n)))
  | swap n => exact sh_tup (sh_c sS (sh_c (sh_int _) sh_n))
  | file f p => exact sh_tup (sh_c sL (sh_c (sh_int _) (sh_c (sh_int _) sh_n)))
  | held => exact sh_tup (sh_c sH sh_n)
def spIsWord (K : PySem.W.Frag) (C : Addr) : Sp := fun vs H Q _ => ∃ (y : V) (d : PyData) (z dx : Addr) (p f b : Int), vs = [y, .ref z] ∧ Dp K H y d ∧ Sh 60 d ∧ H z = some (.ins C dx (szF p f b)) ∧ ∀ H', Same H H' → Q (.bl (wordM f b d)) H'
def spFrameOf (K : PySem.W.Frag) : Sp := fun vs H Q _ => ∃ (y : V) (x : W2), vs = [y] ∧ Dp K H y (w2D x) ∧ Q (optV x.frame?) H
def spBlockOf (K : PySem.W.Frag) : Sp := fun vs H Q _ => ∃ (y : V) (x : W2), vs = [y] ∧ Dp K H y (w2D x) ∧ Q (optV x.block?) H
def spIsWr (K : PySem.W.Frag) : Sp := fun vs H Q _ => ∃ (y : V) (x : W2), vs = [y] ∧ Dp K H y (w2D x) ∧ Q (.bl x.wr) H
def spReadOnly (K : PySem.W.Frag) : Sp := fun vs H Q _ => ∃ (y : V) (x : W2), vs = [y] ∧ Dp K H y (w2D x) ∧ ∀ y' H', Same H H' → Dp K H' y' (w2D x.less) → Q y' H'
end Wk
/-! Loops and comprehensions over enumerate(list), zip of two tuples. -/
namespace Lk
open PySem PySem.Spec PyProof.Rows L2 RZ
theorem for_enum {K : PySem.W.Frag} {a : Addr} {xs : List V} {g : TG} {tb : TS} {D : Ends} {σ : L2.St} {H : Hp} (Pv : Nat → L2.St → Hp → Prop) (h0 : Pv 0 σ H) (hq : ∀ i σ H, Pv i σ H → SqL K H a xs)
    (hs : ∀ (i : Nat) (x : V) (T : Addr) (σ : L2.St) (H : Hp), xs[i]? = some x → Pv i σ H → H T = none → g (.ref T) σ (upd H T (.tup [.int (i : Nat), x])) fun σ2 H2 => tb { D with nx := Pv (i + 1), ct := Pv (i + 1), bk := D.nx } σ2 H2) (hd : ∀ σ H, Pv xs.length σ H → D.nx σ H) :
    ∃ W : Nat → Nat → L2.St → Hp → Prop, (∃ m, W 0 m σ H) ∧ ∀ i m σ H, W i m σ H →
      ((Ite K a).stop i H ∧ D.nx σ H) ∨ ((Ite K a).go i H ∧ ∃ N : L2.St → Hp → Prop, (∀ σ' H', N σ' H' → ∃ m', m' < m ∧ W (i + 1) m' σ' H') ∧ ∀ v H', (Ite K a).yld i H v H' → g v σ H' fun σ2 H2 => tb { D with nx := N, ct := N, bk := D.nx } σ2 H2) := by
  refine ⟨fun i m σ H => m = xs.length - i ∧ i ≤ xs.length ∧ Pv i σ H, ⟨xs.length, rfl, Nat.zero_le _, h0⟩, ?_⟩
  rintro i m σ H ⟨rfl, hi, p⟩
  have qx := hq i σ H p
  by_cases hlt : i < xs.length
  · have hx : xs[i]? = some xs[i] := List.getElem?_eq_getElem hlt
    refine .inr ⟨⟨xs, _, qx, hx⟩, Pv (i + 1), fun σ' H' p' => ⟨xs.length - (i + 1), by omega, rfl, hlt, p'⟩, fun v H' y => ?_⟩
    obtain ⟨T, x', rfl, hT, rfl, f1⟩ := y
    exact hs i x' T σ H (f1 xs qx) p hT
  · have e : i = xs.length := by omega
    subst e
    exact .inl ⟨⟨xs, qx, Nat.le_refl _⟩, hd σ H p⟩
theorem lc_enum {K : PySem.W.Frag} {a : Addr} {xs : List V} {g : TG} {tt : TT} {te : TE} {vs : List Nat} {σ : L2.St} {H1 : Hp} {D : Addr} {Qd : Hp → Prop} (Pv : Nat → Hp → Prop) (h0 : Pv 0 (upd H1 D (.lst []))) (hl : ∀ i H, i ≤ xs.length → Pv i H → SqL K H a xs)
    (hs : ∀ (i : Nat) (x : V) (T : Addr) (H : Hp), xs[i]? = some x → Pv i H → H T = none → g (.ref T) (wipe σ vs) (upd H T (.tup [.int (i : Nat), x])) fun σ2 H2 => wipe σ2 vs = wipe σ vs ∧ tt σ2 H2 fun b H3 =>
      if b = true then te σ2 H3 fun y H4 => ∃ acc, H4 D = some (.lst acc) ∧ acc.length < sizeLine ∧ Pv (i + 1) (upd H4 D (.lst (acc ++ [y]))) else Pv (i + 1) H3) (hd : ∀ H, Pv xs.length H → Qd H) :
    ∃ W : Nat → Nat → Hp → Prop, (∃ m, W 0 m (upd H1 D (.lst []))) ∧ ∀ i m H, W i m H →
      ((Ite K a).stop i H ∧ Qd H) ∨ ((Ite K a).go i H ∧ ∃ Nx : Hp → Prop, (∀ H', Nx H' → ∃ m', m' < m ∧ W (i + 1) m' H') ∧ ∀ x H', (Ite K a).yld i H x H' → g x (wipe σ vs) H' fun σ2 H2 => wipe σ2 vs = wipe σ vs ∧ tt σ2 H2 fun b H3 =>
        if b = true then te σ2 H3 fun y H4 => ∃ acc, H4 D = some (.lst acc) ∧ acc.length < sizeLine ∧ Nx (upd H4 D (.lst (acc ++ [y]))) else Nx H3) := by
  refine ⟨fun i m H => m = xs.length - i ∧ i ≤ xs.length ∧ Pv i H, ⟨xs.length, by simp, Nat.zero_le _, h0⟩, ?_⟩
  rintro i m H ⟨rfl, hi, p⟩
  have q := hl i H hi p
  by_cases hlt : i < xs.length
  · refine .inr ⟨⟨xs, xs[i], q, by simp [hlt]⟩, Pv (i + 1), fun H' p' => ⟨xs.length - (i + 1), by omega, rfl, hlt, p'⟩, fun x H' y => ?_⟩
    obtain ⟨T, x', rfl, hT, rfl, f1⟩ := y
    exact hs i x' T _ (f1 xs q) p hT
  · have e : i = xs.length := by omega
    subst e
    exact .inl ⟨⟨xs, q, Nat.le_refl _⟩, hd H p⟩
theorem lc_zipT {K : PySem.W.Frag} {a b : Addr} {xs ys : List V} {g : TG} {tt : TT} {te : TE} {vs : List Nat} {σ : L2.St} {H1 : Hp} {D : Addr} {Qd : Hp → Prop} (he : xs.length = ys.length) (Pv : Nat → Hp → Prop) (h0 : Pv 0 (upd H1 D (.lst []))) (hl : ∀ i H, i ≤ xs.length → Pv i H → SqT K H a xs ∧ SqT K H b ys)
    (hs : ∀ (i : Nat) (x y : V) (T : Addr) (H : Hp), xs[i]? = some x → ys[i]? = some y → Pv i H → H T = none → g (.ref T) (wipe σ vs) (upd H T (.tup [x, y])) fun σ2 H2 => wipe σ2 vs = wipe σ vs ∧ tt σ2 H2 fun b H3 =>
      if b = true then te σ2 H3 fun y H4 => ∃ acc, H4 D = some (.lst acc) ∧ acc.length < sizeLine ∧ Pv (i + 1) (upd H4 D (.lst (acc ++ [y]))) else Pv (i + 1) H3) (hd : ∀ H, Pv xs.length H → Qd H) :
    ∃ W : Nat → Nat → Hp → Prop, (∃ m, W 0 m (upd H1 D (.lst []))) ∧ ∀ i m H, W i m H →
      ((ItzT K a b).stop i H ∧ Qd H) ∨ ((ItzT K a b).go i H ∧ ∃ Nx : Hp → Prop, (∀ H', Nx H' → ∃ m', m' < m ∧ W (i + 1) m' H') ∧ ∀ x H', (ItzT K a b).yld i H x H' → g x (wipe σ vs) H' fun σ2 H2 => wipe σ2 vs = wipe σ vs ∧ tt σ2 H2 fun b H3 =>
        if b = true then te σ2 H3 fun y H4 => ∃ acc, H4 D = some (.lst acc) ∧ acc.length < sizeLine ∧ Nx (upd H4 D (.lst (acc ++ [y]))) else Nx H3) := by
  refine ⟨fun i m H => m = xs.length - i ∧ i ≤ xs.length ∧ Pv i H, ⟨xs.length, by simp, Nat.zero_le _, h0⟩, ?_⟩
  rintro i m H ⟨rfl, hi, p⟩
  obtain ⟨qx, qy⟩ := hl i H hi p
  by_cases hlt : i < xs.length
  · have hlt2 : i < ys.length := by omega
    refine .inr ⟨⟨xs, ys, xs[i], ys[i], qx, qy, by simp [hlt], by simp [hlt2]⟩, Pv (i + 1), fun H' p' => ⟨xs.length - (i + 1), by omega, rfl, hlt, p'⟩, fun x H' y => ?_⟩
    obtain ⟨T, x', y', rfl, hT, rfl, f1, f2⟩ := y
    exact hs i x' y' T _ (f1 xs qx) (f2 ys qy) p hT
  · have e : i = xs.length := by omega
    subst e
    exact .inl ⟨⟨xs, ys, qx, qy, Or.inl (Nat.le_refl _)⟩, hd H p⟩
theorem at_nat {xs : List V} {n : Nat} {x : V} (h : xs[n]? = some x) : atI xs (n : Int) = some x := at_of (j := n) rfl h
theorem ixN_nat {len n : Nat} (h : n < len) : ixN len (n : Int) = some n := by
  unfold ixN
  simp [seqIndex?]
  omega
end Lk
/-! Owners of frames and blocks: lists of tuples within a list; the held flags; list.remove over data. -/
namespace Fk
open PySem PySem.Spec PyProof.Rows L2 Dk Ek Nk Wk

/-! ### list.remove over data -/
def rRemD (K : PySem.W.Frag) : V → List V → Hp → VK → Prop := fun x xs H Q => ∃ (l : Addr) (vs : List V) (y : V) (d : PyData) (ds : List PyData) (j : Nat) (z : PyData), x = .ref l ∧ xs = [y] ∧ H l = some (.lst vs) ∧ DpAll K H vs ds ∧ Dp K H y d ∧
  SeqAt.shaped (.list ds) = true ∧ SeqAt.shaped d = true ∧ ds[j]? = some z ∧ PyData.eqv z d = true ∧ (∀ (m : Nat) (z' : PyData), m < j → ds[m]? = some z' → PyData.eqv z' d = false) ∧ Q .non (upd H l (.lst (vs.eraseIdx j)))
theorem vals_erase : ∀ {xs : List V} {us : List Value} (j : Nat), Vals xs us → Vals (xs.eraseIdx j) (us.eraseIdx j)
  | _, _, _, .nil => .nil
  | _, _, 0, .cons _ r => r
  | _, _, j + 1, .cons a r => .cons a (vals_erase j r)
section
variable {X : Cx}
theorem mt_removeD (hu : X.A.units + 65 < cLine) : MtM X "list.remove" (rRemD X.K) := by
  intro pins s σ H x xs v us Q I rx rxs h
  obtain ⟨l, vs, y, d, ds, j, z, rfl, rfl, hl, ha, hy, sl, sd, hz, hzj, hno, q⟩ := h
  cases rx
  cases rxs with
  | cons ry rt =>
    rename_i uy ut
    cases rt
    obtain ⟨bs, r1⟩ := Dp.reads I d y uy hy ry
    have hxs : PyData.canLayAll0 ds = true := SeqAt.canLay_of_shaped sl
    have d2 := SeqAt.depth_of_shaped sd
    have hroom : X.A.units + 1 + min (PyData.depthAll ds) d.depth < cLine := by
      have := Nat.min_le_right (PyData.depthAll ds) d.depth
      omega
    obtain ⟨z9, its, n, rv, hlen, ho⟩ := I.lstM hl
    obtain ⟨as, h4⟩ := Dp.readsAll I ds _ its ha rv
    have hn : its.length = ds.length := SeqAt.ReadsAll.length ds its as h4
    have hmap : its.map (SeqAt.readOf s.heap) = ds := SeqAt.readsAll_map ds its as hxs h4
    have hsl := sizeLine_eq
    obtain ⟨hjd, _⟩ := List.getElem?_eq_some_iff.mp hz
    have hjl : j < its.length := by omega
    have hj : j < its.toArray.size := by simpa using hjl
    have at_ : ∀ (m : Nat) (hm : m < its.toArray.size) (z' : PyData), ds[m]? = some z' → SeqAt.readOf s.heap its.toArray[m] = z' := by
      intro m hm z' hz'
      have hml : m < its.length := by simpa using hm
      rw [← hmap, List.getElem?_map, List.getElem?_eq_getElem hml] at hz'
      have e1 : SeqAt.readOf s.heap its[m] = z' := Option.some.inj (show some (SeqAt.readOf s.heap its[m]) = some z' from hz')
      simpa using e1
    refine call_meets PySem.F.slot_list_remove ⟨_, ho, rfl⟩ PySem.F.entry_list_remove (PySem.F.args_list_remove_2 _ _)
      (SeqAt.list_removeAt l its.toArray n none #[] uy (fun u => PyData.eqv (SeqAt.readOf s.heap u) d) j hj ?_ ?_ (by rw [List.size_toArray]; omega)) ⟨ho, SeqAt.items_eqAt (vs := its.toArray) (show ReadsAll s.heap its.toArray.toList ds as from h4) r1 hxs (SeqAt.canLay_of_shaped sd) hroom, ?_⟩
    · show PyData.eqv (SeqAt.readOf s.heap its.toArray[j]) d = true
      rw [at_ j hj z hz]
      exact hzj
    · intro m hm hmj
      have hmd : m < ds.length := by omega
      have hz' : ds[m]? = some ds[m] := List.getElem?_eq_getElem hmd
      show PyData.eqv (SeqAt.readOf s.heap its.toArray[m]) d = false
      rw [at_ m hm _ hz']
      exact hno m _ hmj hz'
    · refine ⟨.non, _, I.lset (its' := its.eraseIdx j) (t' := s.toks) hl ho ?_ (vals_erase j rv) ?_, rfl, q⟩
      · show its.toArray.eraseIdxIfInBounds j = (its.eraseIdx j).toArray
        rw [List.eraseIdxIfInBounds_toArray]
      · have := List.length_eraseIdx_le vs j
        omega
end

/-! ### owners -/
inductive Ow where
  | pr (s p : Int)
  | fl (f p : Int)
  deriving DecidableEq
def oV : Ow → List V
  | .pr s p => [.int s, .int p]
  | .fl f p => [.str "file", .int f, .int p]
def oD : Ow → PyData
  | .pr s p => .tuple [.int s, .int p]
  | .fl f p => .tuple [.str "file", .int f, .int p]
theorem shO (o : Ow) : Sh 1 (oD o) := by
  have sL : Sh 0 (.str "file") := sh_str _ (by decide +kernel)
  cases o with
  | pr s p => exact sh_tup (sh_c (sh_int _) (sh_c (sh_int _) sh_n))
  | fl f p => exact sh_tup (sh_c sL (sh_c (sh_int _) (sh_c (sh_int _) sh_n)))
theorem eqv_oD (a b : Ow) : PyData.eqv (oD a) (oD b) = decide (a = b) := by
  rw [Bool.eq_iff_iff]
  cases a <;> cases b <;> simp [oD, PyData.eqv, PyData.eqvAll]
def wV (z : Addr × Ow) : V := .ref z.1
def OAll (H : Hp) (c : List (Addr × Ow)) : Prop := ∀ z ∈ c, H z.1 = some (.tup (oV z.2))
theorem o_dp {K : PySem.W.Frag} {H : Hp} {t : Addr} {o : Ow} (h : H t = some (.tup (oV o))) : Dp K H (.ref t) (oD o) := by
  cases o with
  | pr s p => exact .tup (SqT.of h) (.cons (.int _) (.cons (.int _) .nil))
  | fl f p => exact .tup (SqT.of h) (.cons (.str _) (.cons (.int _) (.cons (.int _) .nil)))
theorem OAll.dp {K : PySem.W.Frag} {H : Hp} : ∀ {c : List (Addr × Ow)}, OAll H c → DpAll K H (c.map wV) ((c.map Prod.snd).map oD)
  | [], _ => .nil
  | z :: c, h => .cons (o_dp (h z (List.mem_cons_self ..))) (OAll.dp fun y hy => h y (List.mem_cons_of_mem _ hy))
theorem OAll.kt {H H' : Hp} {c : List (Addr × Ow)} (h : OAll H c) (e : KT H H') : OAll H' c := fun z hz => e _ _ (h z hz) True.intro
theorem shOs (os : List Ow) : Sh 2 (.list (os.map oD)) := sh_lst fun d hd => by
  obtain ⟨e, _, rfl⟩ := List.mem_map.mp hd
  exact shO e
theorem any_oD (os : List Ow) (o : Ow) : ((os.map oD).any fun z => PyData.eqv z (oD o)) = decide (o ∈ os) := by
  rw [List.any_map]
  induction os with
  | nil => rfl
  | cons a os ih =>
    simp only [List.any_cons, List.mem_cons, Function.comp] at ih ⊢
    rw [ih, eqv_oD]
    by_cases h : o = a
    · simp [h]
    · have h2 : ¬ a = o := fun z => h z.symm
      simp [h, h2]
theorem any_intD (ns : List Int) (n : Int) : ((ns.map PyData.int).any fun z => PyData.eqv z (.int n)) = decide (n ∈ ns) := by
  rw [List.any_map]
  induction ns with
  | nil => rfl
  | cons a ns ih =>
    simp only [List.any_cons, List.mem_cons, Function.comp] at ih ⊢
    rw [ih]
    by_cases h : n = a
    · simp [h, PyData.eqv]
    · have : ¬ a = n := fun z => h z.symm
      simp [h, this, PyData.eqv]
theorem shInts (ns : List Int) : Sh 1 (.list (ns.map PyData.int)) := sh_lst fun d hd => by
  obtain ⟨e, _, rfl⟩ := List.mem_map.mp hd
  exact sh_int e
theorem ints_dp {K : PySem.W.Frag} {H : Hp} {t : Addr} {ns : List Int} (h : SqL K H t (ns.map V.int)) : Dp K H (.ref t) (.list (ns.map PyData.int)) := .lst h (dpAll_ints ns)
theorem eqv_nilD (ds : List PyData) : PyData.eqv (.list ds) (.list []) = ds.isEmpty := by
  cases ds <;> simp [PyData.eqv, PyData.eqvAll]
theorem shNil : Sh 1 (.list []) := sh_lst sh_n

/-! ### what a call may change -/
def Keep (F : List Addr) (H H' : Hp) : Prop := ∀ a o, a ∉ F → H a = some o → H' a = some o
theorem Keep.same {F : List Addr} {H H' : Hp} (e : Same H H') : Keep F H H' := fun a o _ h => e a o h
theorem Keep.trans {F : List Addr} {H H1 H2 : Hp} (e : Keep F H H1) (f : Keep F H1 H2) : Keep F H H2 := fun a o n h => f a o n (e a o n h)
theorem Keep.put {F : List Addr} {H : Hp} {a : Addr} {o : HO} (h : a ∈ F) : Keep F H (upd H a o) := fun x u n k => (upd_ne (by rintro rfl; exact n h)).trans k
theorem Keep.up {F G : List Addr} {H H' : Hp} (e : Keep F H H') (s : ∀ a ∈ F, a ∈ G) : Keep G H H' := fun a o n h => e a o (fun z => n (s a z)) h

theorem nodup_at {α : Type} : ∀ {l : List α}, l.Nodup → ∀ {i j : Nat} (hi : i < l.length) (hj : j < l.length), l[i] = l[j] → i = j
  | [], _, i, j, hi, _, _ => absurd hi (Nat.not_lt_zero _)
  | x :: l, h, 0, 0, _, _, _ => rfl
  | x :: l, h, 0, j + 1, _, hj, e => by
    have := (List.nodup_cons.mp h).1
    simp only [List.getElem_cons_zero, List.getElem_cons_succ] at e
    exact absurd (e ▸ List.getElem_mem _) this
  | x :: l, h, i + 1, 0, hi, _, e => by
    have := (List.nodup_cons.mp h).1
    simp only [List.getElem_cons_zero, List.getElem_cons_succ] at e
    exact absurd (e ▸ List.getElem_mem _) this
  | x :: l, h, i + 1, j + 1, hi, hj, e => congrArg (· + 1) (nodup_at (List.nodup_cons.mp h).2 (Nat.lt_of_succ_lt_succ hi) (Nat.lt_of_succ_lt_succ hj) (by simpa only [List.getElem_cons_succ] using e))
/-! ### the owners of frames or blocks -/
/-- rows of owners: lists at the addresses as, what they hold is cs -/
structure Rows (H : Hp) (as : List Addr) (cs : List (List (Addr × Ow))) : Prop where
  len : as.length = cs.length
  row : ∀ (j : Nat) (p : Addr) (c : List (Addr × Ow)), as[j]? = some p → cs[j]? = some c → H p = some (.lst (c.map wV))
  tup : ∀ c ∈ cs, OAll H c
theorem Rows.same {H H' : Hp} {as : List Addr} {cs : List (List (Addr × Ow))} (h : Rows H as cs) (e : Same H H') : Rows H' as cs :=
  ⟨h.len, fun j p c h1 h2 => e _ _ (h.row j p c h1 h2), fun c hc z hz => e _ _ (h.tup c hc z hz)⟩
theorem Rows.keep {H H' : Hp} {as F : List Addr} {cs : List (List (Addr × Ow))} (h : Rows H as cs) (e : Keep F H H') (n : ∀ p ∈ as, p ∉ F) (k : KT H H') : Rows H' as cs :=
  ⟨h.len, fun j p c h1 h2 => e _ _ (n p (mem_of_get h1)) (h.row j p c h1 h2), fun c hc => (h.tup c hc).kt k⟩
/-- one row is written -/
theorem Rows.put {H : Hp} {as : List Addr} {cs : List (List (Addr × Ow))} {j : Nat} {p : Addr} {c : List (Addr × Ow)} (h : Rows H as cs) (nd : as.Nodup) (hp : as[j]? = some p) (ho : OAll H c) :
    Rows (upd H p (.lst (c.map wV))) as (cs.set j c) := by
  have hj : j < as.length := (List.getElem?_eq_some_iff.mp hp).1
  have hc0 : ∃ c0, cs[j]? = some c0 := ⟨cs[j]'(by rw [← h.len]; exact hj), List.getElem?_eq_getElem _⟩
  obtain ⟨c0, hc0⟩ := hc0
  have kt : KT H (upd H p (.lst (c.map wV))) := KT.lst (h.row j p c0 hp hc0)
  refine ⟨by rw [List.length_set]; exact h.len, fun i q e h1 h2 => ?_, fun e he => ?_⟩
  · by_cases ij : i = j
    · subst ij
      rw [h1] at hp
      cases hp
      rw [List.getElem?_set_self (by rw [← h.len]; exact hj)] at h2
      cases h2
      exact upd_same
    · rw [List.getElem?_set_ne (Ne.symm ij)] at h2
      have ne : q ≠ p := fun z => ij (by
        obtain ⟨hi, e1⟩ := List.getElem?_eq_some_iff.mp h1
        obtain ⟨_, e2⟩ := List.getElem?_eq_some_iff.mp hp
        exact nodup_at nd hi _ (by rw [e1, e2, z]))
      rw [upd_ne ne]
      exact h.row i q e h1 h2
  · rcases List.mem_or_eq_of_mem_set he with he | rfl
    · exact (h.tup e he).kt kt
    · exact ho.kt kt
structure OwnAt (C : Addr) (H : Hp) (o dx L M : Addr) (as : List Addr) (cs : List (List (Addr × Ow))) (hs : List Bool) : Prop where
  ins : H o = some (.ins C dx [("_owners", .ref L), ("_held", .ref M)])
  own : H L = some (.lst (as.map V.ref))
  rows : Rows H as cs
  held : H M = some (.lst (hs.map V.bl))
  lenH : hs.length = cs.length
  nd : (L :: M :: as).Nodup
  few : cs.length ≤ 100
  thin : ∀ c ∈ cs, c.length ≤ 1000
theorem OwnAt.same {C o dx L M : Addr} {H H' : Hp} {as : List Addr} {cs : List (List (Addr × Ow))} {hs : List Bool} (h : OwnAt C H o dx L M as cs hs) (e : Same H H') : OwnAt C H' o dx L M as cs hs :=
  ⟨e _ _ h.ins, e _ _ h.own, h.rows.same e, e _ _ h.held, h.lenH, h.nd, h.few, h.thin⟩
/-- what another call leaves -/
theorem OwnAt.keep {C o dx L M : Addr} {H H' : Hp} {as F : List Addr} {cs : List (List (Addr × Ow))} {hs : List Bool} (h : OwnAt C H o dx L M as cs hs) (e : Keep F H H') (n : ∀ p ∈ o :: L :: M :: as, p ∉ F) (k : KT H H') : OwnAt C H' o dx L M as cs hs :=
  ⟨e _ _ (n _ (by simp)) h.ins, e _ _ (n _ (by simp)) h.own, h.rows.keep e (fun p hp => n p (by simp [hp])) k, e _ _ (n _ (by simp)) h.held, h.lenH, h.nd, h.few, h.thin⟩
theorem OwnAt.row {C o dx L M : Addr} {H : Hp} {as : List Addr} {cs : List (List (Addr × Ow))} {hs : List Bool} (h : OwnAt C H o dx L M as cs hs) {j : Nat} (hj : j < cs.length) :
    ∃ p, as[j]? = some p ∧ (as.map V.ref)[j]? = some (.ref p) ∧ H p = some (.lst (cs[j].map wV)) ∧ OAll H cs[j] ∧ p ∈ as := by
  have hj2 : j < as.length := by rw [h.rows.len]; exact hj
  refine ⟨as[j], List.getElem?_eq_getElem hj2, by rw [List.getElem?_map, List.getElem?_eq_getElem hj2]; rfl, h.rows.row j _ _ (List.getElem?_eq_getElem hj2) (List.getElem?_eq_getElem hj), h.rows.tup _ (List.getElem_mem hj), List.getElem_mem hj2⟩
theorem OwnAt.flag {C o dx L M : Addr} {H : Hp} {as : List Addr} {cs : List (List (Addr × Ow))} {hs : List Bool} (h : OwnAt C H o dx L M as cs hs) {j : Nat} (hj : j < cs.length) : (hs.map V.bl)[j]? = some (.bl (hs[j]'(by rw [h.lenH]; exact hj))) := by
  rw [List.getElem?_map, List.getElem?_eq_getElem (by rw [h.lenH]; exact hj)]
  rfl
/-- a flag is written -/
theorem OwnAt.setH {C o dx L M : Addr} {H : Hp} {as : List Addr} {cs : List (List (Addr × Ow))} {hs : List Bool} (h : OwnAt C H o dx L M as cs hs) (j : Nat) (b : Bool) :
    OwnAt C (upd H M (.lst ((hs.set j b).map V.bl))) o dx L M as cs (hs.set j b) := by
  have nM := h.nd
  simp only [List.nodup_cons, List.mem_cons, not_or] at nM
  refine ⟨(upd_ne (ne_of h.ins h.held (fun z => nomatch z))).trans h.ins, (upd_ne nM.1.1).trans h.own, h.rows.keep (F := [M]) (Keep.put (by simp)) (fun p hp z => nM.2.1 (List.mem_singleton.mp z ▸ hp)) (KT.lst h.held), upd_same, by rw [List.length_set]; exact h.lenH, h.nd, h.few, h.thin⟩
/-- a row is written -/
theorem OwnAt.setR {C o dx L M : Addr} {H : Hp} {as : List Addr} {cs : List (List (Addr × Ow))} {hs : List Bool} (h : OwnAt C H o dx L M as cs hs) {j : Nat} {p : Addr} {c : List (Addr × Ow)} (hp : as[j]? = some p) (ho : OAll H c) (hl : c.length ≤ 1000) :
    OwnAt C (upd H p (.lst (c.map wV))) o dx L M as (cs.set j c) hs := by
  have nM := h.nd
  simp only [List.nodup_cons, List.mem_cons, not_or] at nM
  have pm := mem_of_get hp
  have hj : j < cs.length := by rw [← h.rows.len]; exact (List.getElem?_eq_some_iff.mp hp).1
  have hr := h.rows.row j p cs[j] hp (List.getElem?_eq_getElem hj)
  refine ⟨(upd_ne (ne_of h.ins hr (fun z => nomatch z))).trans h.ins, (upd_ne (fun z : L = p => nM.1.2 (z.symm ▸ pm))).trans h.own, h.rows.put nM.2.2 hp ho, (upd_ne (fun z : M = p => nM.2.1 (z.symm ▸ pm))).trans h.held, by rw [List.length_set]; exact h.lenH, h.nd, by rw [List.length_set]; exact h.few, fun e he => ?_⟩
  rcases List.mem_or_eq_of_mem_set he with he | rfl
  · exact h.thin e he
  · exact hl

/-! ### mirrors -/
def freeB (cs : List (List (Addr × Ow))) (hs : List Bool) (n : Nat) : Bool := match cs[n]?, hs[n]? with
  | some c, some b => c.isEmpty && !b
  | _, _ => false
def freeL (cs : List (List (Addr × Ow))) (hs : List Bool) : List Nat := (List.range cs.length).filter (freeB cs hs)
def heldL (hs : List Bool) : List Nat := (List.range hs.length).filter fun n => hs[n]?.getD false
def owns (o : Ow) (c : List (Addr × Ow)) : Bool := decide (o ∈ c.map Prod.snd)
def placeM (cs : List (List (Addr × Ow))) (o : Ow) : Option Nat := cs.findIdx? (owns o)
def natV : Option Nat → V
  | none => .non
  | some n => .int n
def nInt (ns : List Nat) : List V := ns.map fun n => V.int (n : Nat)
/-- the victim, from the place on -/
def vicM (cs : List (List (Addr × Ow))) (ps : List Int) (pl : Int) (many : Nat) : Option Nat :=
  ((List.range many).map fun d => ((pl + (d : Nat)) % (many : Int)).toNat).find? fun n => !((cs[n]?.getD []).isEmpty) && !decide ((n : Int) ∈ ps)
theorem freeB_at {cs : List (List (Addr × Ow))} {hs : List Bool} {n : Nat} (h1 : n < cs.length) (h2 : n < hs.length) : freeB cs hs n = (cs[n].isEmpty && !hs[n]) := by
  unfold freeB
  rw [List.getElem?_eq_getElem h1, List.getElem?_eq_getElem h2]

/-! ### promises -/
def inR (n : Int) (m : Nat) : Prop := 0 ≤ n ∧ n < (m : Int)
def spOwnInit (C : Addr) : Sp := fun vs H Q _ => ∃ (o dx : Addr) (many : Nat), vs = [.ref o, .int (many : Nat)] ∧ H o = some (.ins C dx []) ∧ many ≤ 100 ∧
  ∀ H' L M as, SameBut o H H' → H L = none → H M = none → (∀ p ∈ as, H p = none) → OwnAt C H' o dx L M as (List.replicate many []) (List.replicate many false) → Q .non H'
def spCheck (C N : Addr) : Sp := fun vs H Q E => ∃ (o dx L M : Addr) (as : List Addr) (cs : List (List (Addr × Ow))) (hs : List Bool) (n : Int), vs = [.ref o, .int n] ∧ OwnAt C H o dx L M as cs hs ∧
  (inR n cs.length → Q .non H) ∧ (¬ inR n cs.length → ∀ H', Same H H' → E (.ref N) none H')
def spIsFree (C : Addr) : Sp := fun vs H Q _ => ∃ (o dx L M : Addr) (as : List Addr) (cs : List (List (Addr × Ow))) (hs : List Bool) (n : Nat), vs = [.ref o, .int (n : Nat)] ∧ OwnAt C H o dx L M as cs hs ∧ n < cs.length ∧ Q (.bl (freeB cs hs n)) H
def spFree (C : Addr) : Sp := fun vs H Q _ => ∃ (o dx L M : Addr) (as : List Addr) (cs : List (List (Addr × Ow))) (hs : List Bool), vs = [.ref o] ∧ OwnAt C H o dx L M as cs hs ∧
  ∀ H' p, Same H H' → H p = none → H' p = some (.lst (nInt (freeL cs hs))) → Q (.ref p) H'
def spHands (C : Addr) : Sp := fun vs H Q _ => ∃ (o dx L M : Addr) (as : List Addr) (cs : List (List (Addr × Ow))) (hs : List Bool), vs = [.ref o] ∧ OwnAt C H o dx L M as cs hs ∧
  ∀ H' p, Same H H' → H p = none → H' p = some (.lst (nInt (heldL hs))) → Q (.ref p) H'
def spTake (C : Addr) : Sp := fun vs H Q _ => ∃ (o dx L M : Addr) (as : List Addr) (cs : List (List (Addr × Ow))) (hs : List Bool), vs = [.ref o] ∧ OwnAt C H o dx L M as cs hs ∧
  ((freeL cs hs)[0]? = none → ∀ H', Same H H' → Q .non H') ∧ (∀ j, (freeL cs hs)[0]? = some j → ∀ H', Keep [M] H H' → KT H H' → OwnAt C H' o dx L M as cs (hs.set j true) → Q (.int (j : Nat)) H')
def spPlaceOf (K : PySem.W.Frag) (C : Addr) : Sp := fun vs H Q _ => ∃ (o dx L M : Addr) (as : List Addr) (cs : List (List (Addr × Ow))) (hs : List Bool) (t : Addr) (w : Ow), vs = [.ref o, .ref t] ∧ OwnAt C H o dx L M as cs hs ∧ H t = some (.tup (oV w)) ∧
  ∀ H', Same H H' → Q (natV (placeM cs w)) H'
def spOwnersOf (C N : Addr) : Sp := fun vs H Q E => ∃ (o dx L M : Addr) (as : List Addr) (cs : List (List (Addr × Ow))) (hs : List Bool) (n : Int), vs = [.ref o, .int n] ∧ OwnAt C H o dx L M as cs hs ∧
  (∀ j : Nat, n = (j : Int) → ∀ c, cs[j]? = some c → ∀ p, H p = none → Q (.ref p) (upd H p (.lst (c.map wV)))) ∧ (¬ inR n cs.length → ∀ H', Same H H' → E (.ref N) none H')
def spGive (C N : Addr) : Sp := fun vs H Q E => ∃ (o dx L M : Addr) (as : List Addr) (cs : List (List (Addr × Ow))) (hs : List Bool) (n : Int), vs = [.ref o, .int n] ∧ OwnAt C H o dx L M as cs hs ∧
  (∀ j : Nat, n = (j : Int) → hs[j]? = some true → ∀ H', Keep [M] H H' → KT H H' → OwnAt C H' o dx L M as cs (hs.set j false) → Q .non H') ∧
  ((∀ j : Nat, n = (j : Int) → hs[j]? ≠ some true) → ∀ H', Same H H' → E (.ref N) none H')
def spHold (C N : Addr) : Sp := fun vs H Q E => ∃ (o dx L M : Addr) (as : List Addr) (cs : List (List (Addr × Ow))) (hs : List Bool) (n : Int), vs = [.ref o, .int n] ∧ OwnAt C H o dx L M as cs hs ∧
  (∀ j : Nat, n = (j : Int) → freeB cs hs j = true → ∀ H', Keep [M] H H' → KT H H' → OwnAt C H' o dx L M as cs (hs.set j true) → Q .non H') ∧
  ((∀ j : Nat, n = (j : Int) → freeB cs hs j = false) → ∀ H', Same H H' → E (.ref N) none H')
def spAdd (K : PySem.W.Frag) (C N : Addr) : Sp := fun vs H Q E => ∃ (o dx L M : Addr) (as : List Addr) (cs : List (List (Addr × Ow))) (hs : List Bool) (n : Int) (t : Addr) (w : Ow), vs = [.ref o, .int n, .ref t] ∧ OwnAt C H o dx L M as cs hs ∧ H t = some (.tup (oV w)) ∧ (∀ c ∈ cs, c.length ≤ 900) ∧
  (∀ j : Nat, n = (j : Int) → ∀ c, cs[j]? = some c → freeB cs hs j = false → placeM cs w = none → ∀ H', Keep (M :: as) H H' → KT H H' → OwnAt C H' o dx L M as (cs.set j (c ++ [(t, w)])) (hs.set j false) → Q .non H') ∧
  ((∀ j : Nat, n = (j : Int) → j < cs.length → freeB cs hs j = true ∨ placeM cs w ≠ none) → ∀ H', Same H H' → E (.ref N) none H')
/-- where the owner stands -/
def atOw (w : Ow) (c : List (Addr × Ow)) : Option Nat := c.findIdx? fun z => decide (z.2 = w)
theorem map_eraseIdxO {α β : Type} (f : α → β) : ∀ (l : List α) (j : Nat), (l.map f).eraseIdx j = (l.eraseIdx j).map f
  | [], _ => rfl
  | _ :: _, 0 => rfl
  | x :: l, j + 1 => by
    show f x :: (l.map f).eraseIdx j = f x :: (l.eraseIdx j).map f
    rw [map_eraseIdxO f l j]
theorem at_ow {w : Ow} {c : List (Addr × Ow)} (h : w ∈ c.map Prod.snd) : ∃ i, atOw w c = some i := by
  unfold atOw
  cases e : c.findIdx? fun z => decide (z.2 = w) with
  | some i => exact ⟨i, rfl⟩
  | none =>
    rw [List.findIdx?_eq_none_iff] at e
    obtain ⟨z, hz, hw⟩ := List.mem_map.mp h
    have := e z hz
    simp [hw] at this
theorem at_ow_spec {w : Ow} {c : List (Addr × Ow)} {i : Nat} (h : atOw w c = some i) : ((c.map Prod.snd).map oD)[i]? = some (oD w) ∧
    (∀ (m : Nat) (z' : PyData), m < i → ((c.map Prod.snd).map oD)[m]? = some z' → PyData.eqv z' (oD w) = false) ∧ ∀ f : Addr × Ow → V, (c.map f).eraseIdx i = (c.eraseIdx i).map f := by
  unfold atOw at h
  rw [List.findIdx?_eq_some_iff_getElem] at h
  obtain ⟨hi, h1, h2⟩ := h
  refine ⟨?_, fun m z' hm hz => ?_, fun f => map_eraseIdxO f c i⟩
  · rw [List.getElem?_map, List.getElem?_map, List.getElem?_eq_getElem hi]
    simp [of_decide_eq_true h1]
  · have hm2 : m < c.length := by omega
    rw [List.getElem?_map, List.getElem?_map, List.getElem?_eq_getElem hm2] at hz
    have e := Option.some.inj hz
    rw [← e, eqv_oD]
    have := h2 m hm
    simpa using this
def spRemove (K : PySem.W.Frag) (C N : Addr) : Sp := fun vs H Q E => ∃ (o dx L M : Addr) (as : List Addr) (cs : List (List (Addr × Ow))) (hs : List Bool) (n : Int) (t : Addr) (w : Ow), vs = [.ref o, .int n, .ref t] ∧ OwnAt C H o dx L M as cs hs ∧ H t = some (.tup (oV w)) ∧
  (∀ j : Nat, n = (j : Int) → ∀ c, cs[j]? = some c → ∀ i, atOw w c = some i → ∀ H', Keep (M :: as) H H' → KT H H' → OwnAt C H' o dx L M as (cs.set j (c.eraseIdx i)) hs → Q .non H') ∧
  ((∀ j : Nat, n = (j : Int) → ∀ c, cs[j]? = some c → owns w c = false) → ∀ H', Same H H' → E (.ref N) none H')
structure HandAt (C : Addr) (H : Hp) (h dx : Addr) (many : Nat) (pl : Int) : Prop where
  ins : H h = some (.ins C dx [("_many", .int (many : Nat)), ("_frame", .int pl)])
def spHandInit (C : Addr) : Sp := fun vs H Q _ => ∃ (o dx : Addr) (many : Nat), vs = [.ref o, .int (many : Nat)] ∧ H o = some (.ins C dx []) ∧ ∀ H', SameBut o H H' → HandAt C H' o dx many 0 → Q .non H'
def spVictim (K : PySem.W.Frag) (Co C : Addr) : Sp := fun vs H Q _ => ∃ (h hx o dx L M r : Addr) (as : List Addr) (cs : List (List (Addr × Ow))) (hs : List Bool) (pl : Int) (ps : List Int), vs = [.ref h, .ref o, .ref r] ∧ OwnAt Co H o dx L M as cs hs ∧ HandAt C H h hx cs.length pl ∧
  SqL K H r (ps.map V.int) ∧ ps.length ≤ 1000 ∧ 0 ≤ pl ∧ (vicM cs ps pl cs.length = none → ∀ H', Same H H' → Q .non H') ∧
  (∀ j, vicM cs ps pl cs.length = some j → ∀ H', SameBut h H H' → HandAt C H' h hx cs.length (((j : Nat) + 1) % (cs.length : Int)) → Q (.int (j : Nat)) H')
def spPoints (C : Addr) : Sp := fun vs H Q _ => ∃ (h hx : Addr) (many : Nat) (pl : Int), vs = [.ref h] ∧ HandAt C H h hx many pl ∧ Q (.int pl) H
end Fk
/-! Memory: sizes, buffers, boxes, cells, log as they stand in the heap; what an access does. -/
namespace Mk
open PySem PySem.Spec PyProof.Rows L2 Dk Ek Nk Wk Lk Fk
theorem kit_of_sub {K : PySem.W.Frag} {C : Addr} {T : String} {v : Bool} (hm : PySem.W.kitMeta T = true) (h : PySem.W.subIn K (.ref C) (.type T) = some v) : PySem.W.kitOne K (.ref C) (.type T) = some v := by
  unfold PySem.W.kitOne
  rw [if_neg (by intro h; have := beq_iff_eq.mp h; cases this)]
  show (if PySem.W.kitMeta T = true then PySem.W.subIn K (.ref C) (.type T) else none) = some v
  rw [if_pos hm]
  exact h
/-! ### sizes -/
def spSz (C : Addr) (args : List Int) (val : Int → Int → Int → Int) : Addr → Addr → Int → Int → Int → List V → Hp → VK → Prop := fun z dx p f b vs H Q => vs = .ref z :: args.map V.int ∧ H z = some (.ins C dx (szF p f b)) ∧ Q (.int (val p f b)) H
def spLock (C : Addr) : Sp := fun vs H Q _ => ∃ (z dx : Addr) (p f b : Int), vs = [.ref z] ∧ H z = some (.ins C dx (szF p f b)) ∧ Q (.int 0) H
def spAck (C : Addr) : Sp := fun vs H Q _ => ∃ (z dx : Addr) (p f b i : Int), vs = [.ref z, .int i] ∧ H z = some (.ins C dx (szF p f b)) ∧ Q (.int (1 + i)) H
def spWordC (C : Addr) : Sp := fun vs H Q _ => ∃ (z dx : Addr) (p f b s g : Int), vs = [.ref z, .int s, .int g] ∧ H z = some (.ins C dx (szF p f b)) ∧ Q (.int (1 + p + 8 * s + g)) H
def spFrameC (C : Addr) : Sp := fun vs H Q _ => ∃ (z dx : Addr) (p f b s g : Int), vs = [.ref z, .int s, .int g] ∧ H z = some (.ins C dx (szF p f b)) ∧ -(2 ^ 64) < s ∧ s < 2 ^ 64 ∧ Q (.int (1 + p + 4 * 8 + 2 * s + g)) H
def spSwapC (C : Addr) : Sp := fun vs H Q _ => ∃ (z dx : Addr) (p f b i : Int), vs = [.ref z, .int i] ∧ H z = some (.ins C dx (szF p f b)) ∧ Q (.int (1 + p + 4 * 8 + 2 * f + i)) H
def spFileC (C : Addr) : Sp := fun vs H Q _ => ∃ (z dx : Addr) (p f b s g : Int), vs = [.ref z, .int s, .int g] ∧ H z = some (.ins C dx (szF p f b)) ∧ Q (.int (1 + p + 4 * 8 + 2 * f + b + 4 * s + g)) H
def cellsN (p f b : Int) : Int := 1 + p + 4 * 8 + 2 * f + b + 2 * 4
def spCells (C : Addr) : Sp := fun vs H Q _ => ∃ (z dx : Addr) (p f b : Int), vs = [.ref z] ∧ H z = some (.ins C dx (szF p f b)) ∧ Q (.int (cellsN p f b)) H
/-! ### first values -/
def firstD (p f b : Int) : List PyData := List.replicate (1 + p).toNat (.int 0) ++ List.replicate 32 .none ++ List.replicate (2 * f).toNat (.int 0) ++ List.replicate (b + 8).toNat (.tuple [.int 0, .int 0])
def firstV (p f b : Int) (t : Addr) : List V := List.replicate (1 + p).toNat (.int 0) ++ List.replicate 32 .non ++ List.replicate (2 * f).toNat (.int 0) ++ List.replicate (b + 8).toNat (.ref t)
def spFirst (C : Addr) : Sp := fun vs H Q _ => ∃ (z dx : Addr) (p f b : Int), vs = [.ref z] ∧ H z = some (.ins C dx (szF p f b)) ∧ okSz p f b = true ∧ ∀ H' t l, Same H H' → H l = none → H' t = some (.tup [.int 0, .int 0]) → H' l = some (.lst (firstV p f b t)) → Q (.ref l) H'
theorem dp_rep {K : PySem.W.Frag} {H : Hp} {v : V} {d : PyData} (h : Dp K H v d) : ∀ n, DpAll K H (List.replicate n v) (List.replicate n d)
  | 0 => .nil
  | n + 1 => .cons h (dp_rep h n)
theorem first_dp {K : PySem.W.Frag} {H : Hp} {t : Addr} (p f b : Int) (h : H t = some (.tup [.int 0, .int 0])) : DpAll K H (firstV p f b t) (firstD p f b) :=
  dpAll_app (dpAll_app (dpAll_app (dp_rep (.int 0) _) (dp_rep .non _)) (dp_rep (.int 0) _)) (dp_rep (.tup (SqT.of h) (.cons (.int 0) (.cons (.int 0) .nil))) _)
theorem first_len {p f b : Int} (h : okSz p f b = true) : ((firstD p f b).length : Int) = cellsN p f b := by
  simp only [okSz, Bool.and_eq_true, decide_eq_true_eq] at h
  simp only [firstD, List.length_append, List.length_replicate, cellsN]
  omega
theorem okSz_at {p f b : Int} (h : okSz p f b = true) : (1 ≤ p ∧ p ≤ 3) ∧ (2 ≤ f ∧ f ≤ 12) ∧ (0 ≤ b ∧ b ≤ 12) := by
  simp only [okSz, Bool.and_eq_true, decide_eq_true_eq] at h
  exact ⟨h.1.1, h.1.2, h.2⟩
/-! ### buffers -/
structure BufAt (C : Addr) (H : Hp) (b dx l : Addr) (vs : List V) : Prop where
  ins : H b = some (.ins C dx [("_entries", .ref l)])
  lst : H l = some (.lst vs)
theorem BufAt.same {C b dx l : Addr} {H H' : Hp} {vs : List V} (h : BufAt C H b dx l vs) (e : Same H H') : BufAt C H' b dx l vs := ⟨e _ _ h.ins, e _ _ h.lst⟩
def spBufInit (C : Addr) : Sp := fun vs H Q _ => ∃ (x dx : Addr), vs = [.ref x] ∧ H x = some (.ins C dx []) ∧ ∀ H' l, SameBut x H H' → H l = none → BufAt C H' x dx l [] → Q .non H'
def spEntries (C : Addr) : Sp := fun vs H Q _ => ∃ (b dx l : Addr) (zs : List V), vs = [.ref b] ∧ BufAt C H b dx l zs ∧ ∀ p, H p = none → Q (.ref p) (upd H p (.lst zs))
structure BoxAt (C : Addr) (H : Hp) (b dx l : Addr) (vs : List V) : Prop where
  ins : H b = some (.ins C dx [("_letters", .ref l)])
  lst : H l = some (.lst vs)
theorem BoxAt.same {C b dx l : Addr} {H H' : Hp} {vs : List V} (h : BoxAt C H b dx l vs) (e : Same H H') : BoxAt C H' b dx l vs := ⟨e _ _ h.ins, e _ _ h.lst⟩
def spBoxInit (C : Addr) : Sp := fun vs H Q _ => ∃ (x dx : Addr), vs = [.ref x] ∧ H x = some (.ins C dx []) ∧ ∀ H' l, SameBut x H H' → H l = none → BoxAt C H' x dx l [] → Q .non H'
def spLetters (C : Addr) : Sp := fun vs H Q _ => ∃ (b dx l : Addr) (zs : List V), vs = [.ref b] ∧ BoxAt C H b dx l zs ∧ ∀ p, H p = none → Q (.ref p) (upd H p (.lst zs))
/-! ### the memory -/
/-- what does not change of a memory -/
structure MX where
  (m dx z dz bl xl cl lg : Addr)
  (p f b : Int)
  (bs : List (Addr × Addr))
  (xs : List (Addr × Addr × Addr))
/-- what changes -/
structure MS where
  n : Nat
  cells : List PyData
  bufs : List (List En)
  boxes : List (List PyData)
  log : List PyData
structure Cl4 where
  (Cm Cs Cb Cx : Addr)
def Shs (ds : List PyData) : Prop := ∀ d ∈ ds, noL d = true ∧ Sh 20 d
structure MemAt (K : PySem.W.Frag) (C : Cl4) (H : Hp) (x : MX) (s : MS) : Prop where
  ins : H x.m = some (.ins C.Cm x.dx [("sizes", .ref x.z), ("count", .int (s.n : Nat)), ("buffers", .ref x.bl), ("boxes", .ref x.xl), ("_cells", .ref x.cl), ("_log", .ref x.lg)])
  sz : H x.z = some (.ins C.Cs x.dz (szF x.p x.f x.b))
  okS : okSz x.p x.f x.b = true
  bl : H x.bl = some (.lst (x.bs.map fun y => V.ref y.1))
  xl : H x.xl = some (.lst (x.xs.map fun y => V.ref y.1))
  cells : ∃ vs, H x.cl = some (.lst vs) ∧ DpAll K H vs s.cells
  log : ∃ vs, H x.lg = some (.lst vs) ∧ DpAll K H vs s.log
  buf : ∀ (i : Nat) (y : Addr × Addr) (es : List En), x.bs[i]? = some y → s.bufs[i]? = some es → ∃ l zs, BufAt C.Cb H y.1 y.2 l (zs.map aV) ∧ EnAll H zs ∧ zs.map Prod.snd = es ∧ l ∉ x.cl :: x.lg :: x.xs.map fun y => y.2.2
  box : ∀ (i : Nat) (y : Addr × Addr × Addr) (ls : List PyData), x.xs[i]? = some y → s.boxes[i]? = some ls → ∃ vs, BoxAt C.Cx H y.1 y.2.1 y.2.2 vs ∧ DpAll K H vs ls
  lenC : (s.cells.length : Int) = cellsN x.p x.f x.b
  lenB : (x.bs.length : Int) = x.p ∧ s.bufs.length = x.bs.length
  lenX : (x.xs.length : Int) = x.p ∧ s.boxes.length = x.xs.length
  lenL : s.log.length = s.n
  shC : Shs s.cells
  shL : Shs s.log
  shX : ∀ ls ∈ s.boxes, Shs ls
  lim : ∀ es ∈ s.bufs, es.length ≤ 2
  ndL : (x.bl :: x.xl :: x.cl :: x.lg :: x.xs.map fun y => y.2.2).Nodup
  ndB : (x.bs.map fun y => y.1).Nodup
  ndI : ∀ y ∈ x.bs, y.1 ≠ x.m
def MX.foot (x : MX) : List Addr := x.m :: x.cl :: x.lg :: ((x.bs.map fun y => y.1) ++ x.xs.map fun y => y.2.2)
theorem Shs.no {ds : List PyData} (h : Shs ds) : noLs ds = true := noLs_of fun d hd => (h d hd).1
theorem MemAt.same {K : PySem.W.Frag} {C : Cl4} {H H' : Hp} {x : MX} {s : MS} (h : MemAt K C H x s) (e : Same H H') : MemAt K C H' x s where
  ins := e _ _ h.ins
  sz := e _ _ h.sz
  okS := h.okS
  bl := e _ _ h.bl
  xl := e _ _ h.xl
  cells := by
    obtain ⟨vs, h1, h2⟩ := h.cells
    exact ⟨vs, e _ _ h1, dpAll_mono e h2⟩
  log := by
    obtain ⟨vs, h1, h2⟩ := h.log
    exact ⟨vs, e _ _ h1, dpAll_mono e h2⟩
  buf := fun i y es h1 h2 => by
    obtain ⟨l, zs, h3, h4, h5, h6⟩ := h.buf i y es h1 h2
    exact ⟨l, zs, h3.same e, h4.kt (KT.of e), h5, h6⟩
  box := fun i y ls h1 h2 => by
    obtain ⟨vs, h3, h4⟩ := h.box i y ls h1 h2
    exact ⟨vs, h3.same e, dpAll_mono e h4⟩
  lenC := h.lenC
  lenB := h.lenB
  lenX := h.lenX
  lenL := h.lenL
  shC := h.shC
  shL := h.shL
  shX := h.shX
  lim := h.lim
  ndL := h.ndL
  ndB := h.ndB
  ndI := h.ndI
theorem ins_ne {H : Hp} {a b C D dx ex : Addr} {n m : Str} {u v : V} {fs gs : List (Str × V)} (h : H a = some (.ins C dx ((n, u) :: fs))) (k : H b = some (.ins D ex ((m, v) :: gs))) (e : ¬ n = m) : a ≠ b := fun z => by
  rw [z, k] at h
  injection h with h
  injection h with _ _ h
  injection h with h _
  injection h with h _
  exact e h.symm
/-- what is written anew: the count, the cells, the log -/
theorem MemAt.re {K : PySem.W.Frag} {C : Cl4} {H H' : Hp} {x : MX} {s : MS} {n : Nat} {cells log : List PyData} (h : MemAt K C H x s) (kt : KT H H') (kp : Keep [x.m, x.cl, x.lg] H H')
    (hm : H' x.m = some (.ins C.Cm x.dx [("sizes", .ref x.z), ("count", .int (n : Nat)), ("buffers", .ref x.bl), ("boxes", .ref x.xl), ("_cells", .ref x.cl), ("_log", .ref x.lg)]))
    (hc : ∃ vs, H' x.cl = some (.lst vs) ∧ DpAll K H' vs cells) (hl : ∃ vs, H' x.lg = some (.lst vs) ∧ DpAll K H' vs log) (lc : cells.length = s.cells.length) (ll : log.length = n) (sc : Shs cells) (sl : Shs log) :
    MemAt K C H' x ⟨n, cells, s.bufs, s.boxes, log⟩ := by
  have nd := h.ndL
  simp only [List.nodup_cons, List.mem_cons, not_or] at nd
  obtain ⟨vc, hc0, _⟩ := h.cells
  obtain ⟨vl, hl0, _⟩ := h.log
  have insNe : ∀ {y D ex : Addr} {fs : List (Str × V)}, y ≠ x.m → H y = some (.ins D ex fs) → y ∉ [x.m, x.cl, x.lg] := fun nm hy z => by
    simp only [List.mem_cons, List.not_mem_nil, or_false] at z
    rcases z with z | z | z
    · exact nm z
    · exact ne_of hy hc0 (fun q => nomatch q) z
    · exact ne_of hy hl0 (fun q => nomatch q) z
  have lstNe : ∀ {y : Addr} {vs : List V}, y ≠ x.cl → y ≠ x.lg → H y = some (.lst vs) → y ∉ [x.m, x.cl, x.lg] := fun n1 n2 hy z => by
    simp only [List.mem_cons, List.not_mem_nil, or_false] at z
    rcases z with z | z | z
    · exact ne_of hy h.ins (fun q => nomatch q) z
    · exact n1 z
    · exact n2 z
  have zm : x.z ≠ x.m := ins_ne h.sz h.ins (by decide +kernel)
  exact {
    ins := hm
    sz := kp _ _ (insNe zm h.sz) h.sz
    okS := h.okS
    bl := kp _ _ (lstNe nd.1.2.1 nd.1.2.2.1 h.bl) h.bl
    xl := kp _ _ (lstNe nd.2.1.1 nd.2.1.2.1 h.xl) h.xl
    cells := hc
    log := hl
    buf := fun i y es h1 h2 => by
      obtain ⟨l, zs, h3, h4, h5, h6⟩ := h.buf i y es h1 h2
      have h7 := h6
      simp only [List.mem_cons, not_or] at h7
      exact ⟨l, zs, ⟨kp _ _ (insNe (h.ndI y (mem_of_get h1)) h3.ins) h3.ins, kp _ _ (lstNe h7.1 h7.2.1 h3.lst) h3.lst⟩, h4.kt kt, h5, h6⟩
    box := fun i y ls h1 h2 => by
      obtain ⟨vs, h3, h4⟩ := h.box i y ls h1 h2
      have hy : y.2.2 ∈ x.xs.map fun y => y.2.2 := List.mem_map.mpr ⟨y, mem_of_get h1, rfl⟩
      exact ⟨vs, ⟨kp _ _ (insNe (ins_ne h3.ins h.ins (by decide +kernel)) h3.ins) h3.ins, kp _ _ (lstNe (fun z => nd.2.2.1.2 (z ▸ hy)) (fun z => nd.2.2.2.1 (z ▸ hy)) h3.lst) h3.lst⟩, dpAll_keep kt (h.shX ls (mem_of_get h2)).no h4⟩
    lenC := by rw [show (MS.mk n cells s.bufs s.boxes log).cells.length = s.cells.length from lc]; exact h.lenC
    lenB := h.lenB
    lenX := h.lenX
    lenL := ll
    shC := sc
    shL := sl
    shX := h.shX
    lim := h.lim
    ndL := h.ndL
    ndB := h.ndB
    ndI := h.ndI }
def initS (p f b : Int) : MS := ⟨0, firstD p f b, List.replicate p.toNat [], List.replicate p.toNat [], []⟩
def spMemInit (K : PySem.W.Frag) (C : Cl4) : Sp := fun vs H Q _ => ∃ (m dx z dz : Addr) (p f b : Int), vs = [.ref m, .ref z] ∧ H m = some (.ins C.Cm dx []) ∧ H z = some (.ins C.Cs dz (szF p f b)) ∧ okSz p f b = true ∧
  ∀ H' x, x.m = m → x.dx = dx → x.z = z → x.dz = dz → x.p = p → x.f = f → x.b = b → SameBut m H H' → (∀ a ∈ x.bl :: x.xl :: x.cl :: x.lg :: ((x.bs.map fun y => y.1) ++ x.xs.map fun y => y.2.2), H a = none) → MemAt K C H' x (initS p f b) → Q .non H'
def spPeek (K : PySem.W.Frag) (C : Cl4) (N : Addr) : Sp := fun vs H Q E => ∃ (x : MX) (s : MS) (c : Int), vs = [.ref x.m, .int c] ∧ MemAt K C H x s ∧
  (∀ j : Nat, c = (j : Int) → ∀ v d, s.cells[j]? = some d → Dp K H v d → Q v H) ∧ (¬ (0 ≤ c ∧ c < cellsN x.p x.f x.b) → ∀ H', Same H H' → E (.ref N) none H')
def spLog (K : PySem.W.Frag) (C : Cl4) : Sp := fun vs H Q _ => ∃ (x : MX) (s : MS), vs = [.ref x.m] ∧ MemAt K C H x s ∧ ∀ vs p, H p = none → DpAll K H vs s.log → Q (.ref p) (upd H p (.lst vs))
end Mk
/-! match over a tuple whose first part is a text: case ("name", a, b, ..). -/
namespace Mc
open PySem PySem.Spec PyProof.Rows L2
abbrev TC := Str → List V → TS
section
variable {X : Cx}
structure PCs (X : Cx) (cs : List MatchCase) (t : TC) : Prop where
  run : ∀ (pins : List (Addr × Obj)) (s : Shared) (σ : L2.St) (H : Hp) (D : Ends) (a : Addr) (z : Str) (xs : List V) (first : Bool), Inv X pins σ H s → SqT X.K H a (.str z :: xs) → t z xs D σ H →
    wpAny (model X.prog X.w) X.A (matchCases cs X.env (.ref a) first) (SP X pins D) X.xe s
def setAll : L2.St → List Nat → List V → L2.St
  | σ, i :: is, v :: vs => setAll (σ.set i (some v)) is vs
  | σ, _, _ => σ
/-- the captures of a case, by their slots -/
inductive Caps (X : Cx) : List Pattern → List Nat → List Str → Prop where
  | nil : Caps X [] [] []
  | cons {n : Str} {i : Nat} {pos : Pos} {ps : List Pattern} {is : List Nat} {ns : List Str} (hi : X.N[i]? = some n) (hx : Loc X.env.scope n) (r : Caps X ps is ns)
      (hf : X.fn n = true ∨ X.env.scope.names.lookup n = some .local := by first | exact .inl rfl | exact .inr rfl | assumption) : Caps X (.MatchAs none (some n) pos :: ps) (i :: is) (n :: ns)
theorem Caps.len {ps : List Pattern} {is : List Nat} {ns : List Str} (c : Caps X ps is ns) : ps.length = is.length ∧ ns.length = is.length := by
  induction c with
  | nil => exact ⟨rfl, rfl⟩
  | cons _ _ _ _ ih => exact ⟨congrArg (· + 1) ih.1, congrArg (· + 1) ih.2⟩
theorem caps_match {M : Model} {A : Around} {E : Value → Shared → Prop} {ps : List Pattern} {is : List Nat} {ns : List Str} (c : Caps X ps is ns) : ∀ {us : List Value} {s : Shared} {Q : Option (List (Str × Value)) → Shared → Prop}, us.length = is.length → Q (some (ns.zip us)) s → wpAny M A (matchEach ps X.env us) Q E s := by
  induction c with
  | nil =>
    intro us s Q hl h
    exact wpAny_matchEach_nil h
  | @cons n i pos ps is ns hi hx r hf ih =>
    intro us s Q hl h
    cases us with
    | nil => cases hl
    | cons u us =>
      refine wpAny_matchEach_cons (wpAny_matchPattern_Capture ?_)
      exact ih (Nat.succ.inj hl) h
theorem caps_assign {ps : List Pattern} {is : List Nat} {ns : List Str} (c : Caps X ps is ns) (hN : X.N.Nodup) : ∀ {us : List Value} {vs : List V} {pins : List (Addr × Obj)} {σ : L2.St} {H : Hp} {s : Shared} {Q : Unit → Shared → Prop}, us.length = is.length → Vals vs us → Inv X pins σ H s →
    (∀ s', Inv X pins (setAll σ is vs) H s' → Q () s') → wpAny (model X.prog X.w) X.A (assignInOrder ((ns.zip us).map fun (n, _) => bindName X.env n) ((ns.zip us).map (·.2))) Q X.xe s := by
  induction c with
  | nil =>
    intro us vs pins σ H s Q hl r I h
    exact wpAny_assignInOrder_none (h s (by cases us with | nil => (cases r; exact I) | cons _ _ => cases hl))
  | @cons n i pos ps is ns hi hx r hf ih =>
    intro us vs pins σ H s Q hl rv I h
    cases us with
    | nil => cases hl
    | cons u us =>
      cases rv with
      | @cons v _ vs _ r1 r2 =>
        refine wpAny_assignInOrder_more (wpAny_bindName (store_ok I hN hi hx r1 (fun s1 I1 => ?_) hf))
        exact ih (Nat.succ.inj hl) r2 I1 h
theorem pc_nil : PCs X [] (fun _ _ D σ H => D.nx σ H) := ⟨fun pins s σ H D a z xs first I _ h => wpAny_matchCases_nil ⟨σ, H, I, h⟩⟩
def tCase (nm : Str) (is : List Nat) (tb : TS) (tr : TC) : TC := fun z xs D σ H =>
  ((z == nm) = true ∧ xs.length = is.length → tb D (setAll σ is xs) H) ∧ (¬ ((z == nm) = true ∧ xs.length = is.length) → tr z xs D σ H)
theorem pc_cons {nm : Str} {j : Nat} {p1 p2 p3 : Pos} {caps : List Pattern} {is : List Nat} {ns : List Str} {body : List Stmt} {rest : List MatchCase} {tb : TS} {tr : TC} (hc : X.calm = true) (hN : X.N.Nodup) (c : Caps X caps is ns) (hb : PSs X body tb) (hr : PCs X rest tr)
    (hstar : (Pattern.MatchValue (.Constant (.str nm) j p1) p2 :: caps).findIdx? (·.isStar) = none := by rfl)
    (hwild : ((Pattern.MatchValue (.Constant (.str nm) j p1) p2 :: caps).all fun p => p.isWildcard || (p.isStar && p.names.isEmpty)) = false := by rfl) :
    PCs X (⟨.MatchSequence (.MatchValue (.Constant (.str nm) j p1) p2 :: caps) p3, none, body⟩ :: rest) (tCase nm is tb tr) := by
  refine ⟨fun pins s σ H D a z xs first I hq h => ?_⟩
  obtain ⟨its, rv, ht, hz⟩ := I.tuple hq
  have hsl := sizeLine_eq
  cases rv with
  | @cons _ u _ us ru rus =>
    have hlx : xs.length = us.length := rus.length
    have hfit : ((u :: us).toArray.size : Int) < 2 ^ 63 := by
      simp only [List.length_cons] at hz
      simp only [List.size_toArray, List.length_cons]
      omega
    by_cases hl : xs.length = is.length
    · have hn : (u :: us).toArray.size = (Pattern.MatchValue (.Constant (.str nm) j p1) p2 :: caps).length := by
        simp only [List.size_toArray, List.length_cons]
        have := c.len.1
        omega
      refine wpAny_matchCases_cons (matchSeq_tuple_hit ht hfit hn ?_ hstar hwild)
      have hn2 : (Pattern.MatchValue (.Constant (.str nm) j p1) p2 :: caps).length = (u :: us).toArray.size := hn.symm
      rw [hn2]
      have I0 : Inv X pins σ H { s with toks := s.toks + 1 + 1 } := I.tok _
      refine unpackItems_tuple (I.ok.hd hc) ht fun h' hx => ?_
      have I1 : Inv X pins σ H { s with heap := h', toks := s.toks + 1 + 1 } := I0.kept (t' := s.toks + 1 + 1) fun b o e => hx b o (Nat.ne_of_lt (Heap.lt_size e)) e
      show wpAny _ _ (matchEach (_ :: _) X.env (u :: us)) _ _ _
      refine wpAny_matchEach_cons (wpAny_matchPattern_Value ?_)
      refine thn ((pe_str (X := X) (x := nm) (j := j) (pos := p1)).run pins _ σ H (fun v H' => v = .str nm ∧ H' = H) I1 ⟨rfl, rfl⟩) fun w s1 ⟨v, H', I2, rw_, hv, hH⟩ => ?_
      subst hv hH
      refine thn (op_eq (X := X) pins s1 σ H' (.str z) (.str nm) u w (fun v H'' => v = .bl (decide (V.str z = V.str nm)) ∧ H'' = H') I2 ru rw_ ⟨rfl, rfl, rfl⟩) fun cv s2 ⟨v, H'', I3, rc, hv, hH⟩ => ?_
      subst hv hH
      cases (show cv = Value.bool (decide (V.str z = V.str nm)) from rc)
      refine wpAny_truthy_bool ?_
      have ed : decide (V.str z = V.str nm) = (z == nm) := by
        rw [Bool.eq_iff_iff]
        simp
      by_cases hzn : (z == nm) = true
      · rw [ed, hzn]
        refine caps_match c (by omega) ?_
        show wpAny _ _ (assignInOrder ((([] : List (Str × Value)) ++ ns.zip us).map fun (n, _) => bindName X.env n) ((([] : List (Str × Value)) ++ ns.zip us).map (·.2))) _ _ _
        rw [List.nil_append]
        exact caps_assign c hN (by omega) rus I3 fun s3 I4 => hb.run pins s3 _ H'' D I4 (h.1 ⟨hzn, hl⟩)
      · rw [ed, Bool.eq_false_iff.mpr hzn]
        exact hr.run pins s2 σ H'' D a z xs false I3 hq (h.2 fun k => hzn k.1)
    · have hn : (u :: us).toArray.size ≠ (Pattern.MatchValue (.Constant (.str nm) j p1) p2 :: caps).length := by
        simp only [List.size_toArray, List.length_cons]
        have := c.len.1
        omega
      refine wpAny_matchCases_cons (matchSeq_tuple_miss ht hfit hn ?_ hstar hwild)
      exact hr.run pins _ σ H D a z xs false (I.tok _) hq (h.2 fun k => hl k.2)
def tMatch (K : PySem.W.Frag) (te : TE) (tc : TC) : TS := fun D σ H => te σ H fun x H1 => ∃ (a : Addr) (z : Str) (xs : List V), x = .ref a ∧ SqT K H1 a (.str z :: xs) ∧ tc z xs D σ H1
theorem ps_match {e : Expr} {cs : List MatchCase} {pos : Pos} {te : TE} {tc : TC} (he : PE X e te) (hc : PCs X cs tc) : PS X (.Match e cs pos) (tMatch X.K te tc) := by
  refine ⟨fun pins s σ H D I h => wpAny_Match (thn (he.run pins s σ H _ I h) fun u s1 ⟨x, H1, I1, rx, a, z, xs, ex, hq, q⟩ => ?_)⟩
  subst ex
  obtain rfl : u = Value.ref a := rx
  exact hc.run pins s1 σ H1 D a z xs true I1 hq q
end
end Mc
/-! d.get(e), d a dict of the module with texts as keys. -/
namespace Pk
open PySem PySem.Spec PyProof.Rows L2
def IsKD (K : PySem.W.Frag) (w : World) (a : Addr) : Prop := ∃ es n, K.lookup a = some ⟨.type "dict", none, .dict es n, #[]⟩ ∧ PySem.W.KeysLit w.params es.toList ∧ (a == sysModules) = false
def tKGet1 (K : PySem.W.Frag) (w : World) (td ty : TE) : TE := fun σ H Q => td σ H fun x H1 => ∃ a, x = .ref a ∧ IsKD K w a ∧ ty σ H1 fun y H2 => ∃ z, y = .str z ∧
  ((∃ u v, PySem.W.nsIn K a z = some (some u) ∧ RelV v u ∧ Q v H2) ∨ (PySem.W.nsIn K a z = some none ∧ Q .non H2))
section
variable {X : Cx} {o e : Expr} {apos cpos : Pos} {td ty : TE}
theorem pe_kget1 (ho : PE X o td) (he : PE X e ty) (m : M1 X o "get" apos e cpos) : PE X (.Call (.Attribute o "get" apos) [e] [] cpos) (tKGet1 X.K X.w td ty) := by
  refine ⟨fun pins s σ H Q I h => ?_⟩
  refine wpAny_Call_method m.base m.few m.line PySem.F.plainAttrs_dict PySem.F.slot_dict_get PySem.F.type_dict_get (thn (ho.run pins s σ H _ I h) fun u s1 ⟨x, H1, I1, rx, a, ex, d, q1⟩ => ?_)
  subst ex
  obtain rfl : u = Value.ref a := rx
  obtain ⟨es, n, hl, hk, hd⟩ := d
  have hm1 := PySem.W.mapOf_K (prog := X.prog) (w := X.w) I1.kIn hl hk
  refine ⟨hm1.typeIs, fun b q => ?_, ?_⟩
  · cases q
    exact ⟨_, I1.kIn _ _ hl, rfl⟩
  rw [m.trees]
  refine Calls.callWith_builtin rfl (Calls.evalArgs_plain (Calls.spliced_cons (thn (he.run pins s1 σ H1 _ I1 q1) fun iv s2 ⟨y, H2, I2, ry, z, ey, q2⟩ => Calls.spliced_nil ?_)))
  subst ey
  obtain ⟨t, rfl⟩ := (show ∃ t, iv = Value.str z t from ry)
  have hm := PySem.W.mapOf_K (prog := X.prog) (w := X.w) I2.kIn hl hk
  refine call_meetsIn PySem.F.slot_dict_get hm.typeIs PySem.F.entry_dict_get (PySem.F.args_dict_get_2 _ _) (meets_dict_get (strKind X.prog X.w) a (strKind_is X.prog X.w z t) hd) ⟨_, hm, ?_⟩
  rcases q2 with ⟨u0, v, e1, ru, q⟩ | ⟨e1, q⟩
  · have hf := PySem.W.find_K hl e1
    rw [hf]
    exact ⟨v, H2, I2.tok _, ru, q⟩
  · have hf := PySem.W.find_K hl e1
    rw [hf]
    exact ⟨.non, H2, I2.tok _, rfl, q⟩
end
/-! ### the module's table of requests -/
def partsOf (z : Str) : Option (List Str) :=
  if z = "read" then some [("cell" : Str)] else if z = "write" then some [("cell" : Str), ("value" : Str)] else if z = "swap" then some [("cell" : Str), ("value" : Str), ("value" : Str)] else if z = "send" then some [("processor" : Str), ("letter" : Str)] else if z = "take" then some [] else if z = "walk" then some [("space" : Str), ("page" : Str)] else if z = "load" then some [("space" : Str), ("page" : Str), ("index" : Str)] else if z = "store" then some [("space" : Str), ("page" : Str), ("index" : Str), ("value" : Str)] else if z = "change" then some [("space" : Str), ("page" : Str), ("index" : Str), ("value" : Str), ("value" : Str)] else none
structure PartsAt (w : World) (K : PySem.W.Frag) (mg : Str → Option Value) : Prop where
  ex : ∃ p, mg "PARTS" = some (.ref p) ∧ IsKD K w p ∧ ∀ z : Str, (∃ ks t, partsOf z = some ks ∧ PySem.W.nsIn K p z = some (some (.ref t)) ∧ ∀ H, SqT K H t (ks.map V.str)) ∨ (partsOf z = none ∧ PySem.W.nsIn K p z = some none)
theorem ns_dict {K : PySem.W.Frag} {p : Addr} {es : List DictEntry} {n : Nat} (h : K.lookup p = some ⟨.type "dict", none, .dict es.toArray n, #[]⟩) (z : Str) :
    PySem.W.nsIn K p z = (match es.find? (·.key.isStr z) with | some e => some (some e.val) | none => if es.any (·.refKey) then none else some none) := by
  unfold PySem.W.nsIn
  rw [h]
  rfl
theorem isStr_ne {x z : Str} {k : Tok} (h : ¬ z = x) : (Value.str x k).isStr z = false := by
  rw [PySem.W.isStr_of]
  show (x == z) = false
  exact beq_eq_false_iff_ne.mpr fun e => h e.symm
theorem isStr_eq {x : Str} {k : Tok} : (Value.str x k).isStr x = true := by
  rw [PySem.W.isStr_of]
  show (x == x) = true
  exact beq_self_eq_true x
theorem parts_mk {w : World} {K : PySem.W.Frag} {mg : Str → Option Value} {pP : Addr} {nP : Nat} {t0 t1 t2 t3 t4 t5 t6 t7 t8 : Addr} {m0 m1 m2 m3 m4 m5 m6 m7 m8 : Nat} {k0 k1 k2 k3 k4 k5 k6 k7 k8 j00 j10 j11 j20 j21 j22 j30 j31 j50 j51 j60 j61 j62 j70 j71 j72 j73 j80 j81 j82 j83 j84 : Tok}
    (hg : mg "PARTS" = some (.ref pP)) (hs : (pP == sysModules) = false) (hl : K.lookup pP = some ⟨.type "dict", none, .dict #[⟨PyData.keyHash w.params "read", .str "read" k0, .ref t0⟩, ⟨PyData.keyHash w.params "write", .str "write" k1, .ref t1⟩, ⟨PyData.keyHash w.params "swap", .str "swap" k2, .ref t2⟩, ⟨PyData.keyHash w.params "send", .str "send" k3, .ref t3⟩, ⟨PyData.keyHash w.params "take", .str "take" k4, .ref t4⟩, ⟨PyData.keyHash w.params "walk", .str "walk" k5, .ref t5⟩, ⟨PyData.keyHash w.params "load", .str "load" k6, .ref t6⟩, ⟨PyData.keyHash w.params "store", .str "store" k7, .ref t7⟩, ⟨PyData.keyHash w.params "change", .str "change" k8, .ref t8⟩] nP, #[]⟩)
    (h0 : K.lookup t0 = some ⟨.type "tuple", none, .seq #[.str "cell" j00] m0, #[]⟩) (h1 : K.lookup t1 = some ⟨.type "tuple", none, .seq #[.str "cell" j10, .str "value" j11] m1, #[]⟩) (h2 : K.lookup t2 = some ⟨.type "tuple", none, .seq #[.str "cell" j20, .str "value" j21, .str "value" j22] m2, #[]⟩) (h3 : K.lookup t3 = some ⟨.type "tuple", none, .seq #[.str "processor" j30, .str "letter" j31] m3, #[]⟩) (h4 : K.lookup t4 = some ⟨.type "tuple", none, .seq #[] m4, #[]⟩) (h5 : K.lookup t5 = some ⟨.type "tuple", none, .seq #[.str "space" j50, .str "page" j51] m5, #[]⟩) (h6 : K.lookup t6 = some ⟨.type "tuple", none, .seq #[.str "space" j60, .str "page" j61, .str "index" j62] m6, #[]⟩) (h7 : K.lookup t7 = some ⟨.type "tuple", none, .seq #[.str "space" j70, .str "page" j71, .str "index" j72, .str "value" j73] m7, #[]⟩) (h8 : K.lookup t8 = some ⟨.type "tuple", none, .seq #[.str "space" j80, .str "page" j81, .str "index" j82, .str "value" j83, .str "value" j84] m8, #[]⟩) : PartsAt w K mg := by
  refine ⟨pP, hg, ⟨_, _, hl, ?_, hs⟩, fun z => ?_⟩
  · exact ⟨⟨_, _, rfl, rfl⟩, ⟨⟨_, _, rfl, rfl⟩, ⟨⟨_, _, rfl, rfl⟩, ⟨⟨_, _, rfl, rfl⟩, ⟨⟨_, _, rfl, rfl⟩, ⟨⟨_, _, rfl, rfl⟩, ⟨⟨_, _, rfl, rfl⟩, ⟨⟨_, _, rfl, rfl⟩, ⟨⟨_, _, rfl, rfl⟩, True.intro⟩⟩⟩⟩⟩⟩⟩⟩⟩
  · have hn := ns_dict (es := [⟨PyData.keyHash w.params "read", .str "read" k0, .ref t0⟩, ⟨PyData.keyHash w.params "write", .str "write" k1, .ref t1⟩, ⟨PyData.keyHash w.params "swap", .str "swap" k2, .ref t2⟩, ⟨PyData.keyHash w.params "send", .str "send" k3, .ref t3⟩, ⟨PyData.keyHash w.params "take", .str "take" k4, .ref t4⟩, ⟨PyData.keyHash w.params "walk", .str "walk" k5, .ref t5⟩, ⟨PyData.keyHash w.params "load", .str "load" k6, .ref t6⟩, ⟨PyData.keyHash w.params "store", .str "store" k7, .ref t7⟩, ⟨PyData.keyHash w.params "change", .str "change" k8, .ref t8⟩]) hl z
    by_cases c0 : z = "read"
    · subst c0
      refine .inl ⟨[("cell" : Str)], t0, by decide +kernel, ?_, fun H => .inr ⟨_, _, _, h0, rfl, rfl, by show 1 ≤ sizeLine; decide, .cons ⟨_, rfl⟩ (.nil)⟩⟩
      rw [hn]
      rfl
    by_cases c1 : z = "write"
    · subst c1
      refine .inl ⟨[("cell" : Str), ("value" : Str)], t1, by decide +kernel, ?_, fun H => .inr ⟨_, _, _, h1, rfl, rfl, by show 2 ≤ sizeLine; decide, .cons ⟨_, rfl⟩ (.cons ⟨_, rfl⟩ (.nil))⟩⟩
      rw [hn]
      rfl
    by_cases c2 : z = "swap"
    · subst c2
      refine .inl ⟨[("cell" : Str), ("value" : Str), ("value" : Str)], t2, by decide +kernel, ?_, fun H => .inr ⟨_, _, _, h2, rfl, rfl, by show 3 ≤ sizeLine; decide, .cons ⟨_, rfl⟩ (.cons ⟨_, rfl⟩ (.cons ⟨_, rfl⟩ (.nil)))⟩⟩
      rw [hn]
      rfl
    by_cases c3 : z = "send"
    · subst c3
      refine .inl ⟨[("processor" : Str), ("letter" : Str)], t3, by decide +kernel, ?_, fun H => .inr ⟨_, _, _, h3, rfl, rfl, by show 2 ≤ sizeLine; decide, .cons ⟨_, rfl⟩ (.cons ⟨_, rfl⟩ (.nil))⟩⟩
      rw [hn]
      rfl
    by_cases c4 : z = "take"
    · subst c4
      refine .inl ⟨[], t4, by decide +kernel, ?_, fun H => .inr ⟨_, _, _, h4, rfl, rfl, by show 0 ≤ sizeLine; decide, .nil⟩⟩
      rw [hn]
      rfl
    by_cases c5 : z = "walk"
    · subst c5
      refine .inl ⟨[("space" : Str), ("page" : Str)], t5, by decide +kernel, ?_, fun H => .inr ⟨_, _, _, h5, rfl, rfl, by show 2 ≤ sizeLine; decide, .cons ⟨_, rfl⟩ (.cons ⟨_, rfl⟩ (.nil))⟩⟩
      rw [hn]
      rfl
    by_cases c6 : z = "load"
    · subst c6
      refine .inl ⟨[("space" : Str), ("page" : Str), ("index" : Str)], t6, by decide +kernel, ?_, fun H => .inr ⟨_, _, _, h6, rfl, rfl, by show 3 ≤ sizeLine; decide, .cons ⟨_, rfl⟩ (.cons ⟨_, rfl⟩ (.cons ⟨_, rfl⟩ (.nil)))⟩⟩
      rw [hn]
      rfl
    by_cases c7 : z = "store"
    · subst c7
      refine .inl ⟨[("space" : Str), ("page" : Str), ("index" : Str), ("value" : Str)], t7, by decide +kernel, ?_, fun H => .inr ⟨_, _, _, h7, rfl, rfl, by show 4 ≤ sizeLine; decide, .cons ⟨_, rfl⟩ (.cons ⟨_, rfl⟩ (.cons ⟨_, rfl⟩ (.cons ⟨_, rfl⟩ (.nil))))⟩⟩
      rw [hn]
      rfl
    by_cases c8 : z = "change"
    · subst c8
      refine .inl ⟨[("space" : Str), ("page" : Str), ("index" : Str), ("value" : Str), ("value" : Str)], t8, by decide +kernel, ?_, fun H => .inr ⟨_, _, _, h8, rfl, rfl, by show 5 ≤ sizeLine; decide, .cons ⟨_, rfl⟩ (.cons ⟨_, rfl⟩ (.cons ⟨_, rfl⟩ (.cons ⟨_, rfl⟩ (.cons ⟨_, rfl⟩ (.nil)))))⟩⟩
      rw [hn]
      rfl
    refine .inr ⟨?_, ?_⟩
    · unfold partsOf
      rw [if_neg c0, if_neg c1, if_neg c2, if_neg c3, if_neg c4, if_neg c5, if_neg c6, if_neg c7, if_neg c8]
    · rw [hn]
      simp only [List.find?_cons, isStr_ne c0, isStr_ne c1, isStr_ne c2, isStr_ne c3, isStr_ne c4, isStr_ne c5, isStr_ne c6, isStr_ne c7, isStr_ne c8, List.find?_nil]
      rfl
end Pk
/-! Accesses: which values are requests, and what reading, writing and swapping do. -/
namespace Ak
open PySem PySem.Spec PyProof.Rows L2 Dk Ek Nk Wk Lk Fk Mk Pk
def pairD : PyData → Bool
  | .tuple [a, b] => belowD a 4 && belowD b 8
  | _ => false
def posD : PyData → Bool
  | .int i => !decide (i < 1)
  | _ => false
def manyD : PyData → Bool
  | .tuple ps => !decide ((ps.length : Int) = 0) && ps.all pairD
  | _ => false
def letterD : PyData → Bool
  | .tuple [t, p] => posD t && manyD p
  | _ => false
theorem pair_no {d : PyData} (h : tupD d 2 = false) : pairD d = false := by
  unfold pairD
  split
  · simp [tupD] at h
  · rfl
theorem letter_no {d : PyData} (h : tupD d 2 = false) : letterD d = false := by
  unfold letterD
  split
  · simp [tupD] at h
  · rfl
def FewD (d : PyData) : Prop := ∀ t ps, d = .tuple [t, .tuple ps] → ps.length ≤ 1000
def spPair (K : PySem.W.Frag) : Sp := fun vs H Q _ => ∃ (v : V) (d : PyData), vs = [v] ∧ Dp K H v d ∧ Q (.bl (pairD d)) H
def spLetter (K : PySem.W.Frag) : Sp := fun vs H Q _ => ∃ (v : V) (d : PyData), vs = [v] ∧ Dp K H v d ∧ FewD d ∧ ∀ H', Same H H' → Q (.bl (letterD d)) H'
/-! ### parts of requests -/
def valueD : PyData → Bool
  | .none => true
  | .int _ => true
  | .tuple _ => true
  | _ => false
def boundK (k : Str) (p f b : Int) : Int := if k = "cell" then cellsN p f b else if k = "processor" then p else if k = "space" then 4 else if k = "page" then 8 else 2
def partD (d : PyData) (k : Str) (p f b : Int) : Bool := if k = "value" then valueD d else if k = "letter" then letterD d else belowD d (boundK k p f b)
def reqL (z : Str) (r : List PyData) (p f b : Int) : Bool := match partsOf z with
  | none => false
  | some ks => decide (r.length = ks.length) && (r.zip ks).all fun y => partD y.1 y.2 p f b
def reqD (d : PyData) (p f b : Int) : Bool := match d with
  | .tuple (.str z :: r) => reqL z r p f b
  | _ => false
structure FewR (d : PyData) : Prop where
  wide : ∀ ds, d = .tuple ds → ds.length ≤ 100
  deep : ∀ ds, d = .tuple ds → ∀ x ∈ ds, FewD x
def spValue (K : PySem.W.Frag) : Sp := fun vs H Q _ => ∃ (v : V) (d : PyData), vs = [v] ∧ Dp K H v d ∧ Q (.bl (valueD d)) H
def spBound (C : Addr) : Sp := fun vs H Q _ => ∃ (k : Str) (z dx : Addr) (p f b : Int), vs = [.str k, .ref z] ∧ H z = some (.ins C dx (szF p f b)) ∧ Q (.int (boundK k p f b)) H
def spPart (K : PySem.W.Frag) (C : Addr) : Sp := fun vs H Q _ => ∃ (v : V) (d : PyData) (k : Str) (z dx : Addr) (p f b : Int), vs = [v, .str k, .ref z] ∧ Dp K H v d ∧ FewD d ∧ H z = some (.ins C dx (szF p f b)) ∧ ∀ H', Same H H' → Q (.bl (partD d k p f b)) H'
def spIsReq (K : PySem.W.Frag) (C : Addr) : Sp := fun vs H Q _ => ∃ (v : V) (d : PyData) (z dx : Addr) (p f b : Int), vs = [v, .ref z] ∧ Dp K H v d ∧ FewR d ∧ H z = some (.ins C dx (szF p f b)) ∧ ∀ H', Same H H' → Q (.bl (reqD d p f b)) H'
/-! ### reading, writing, swapping -/
inductive Rw where
  | read (c : Int)
  | write (c : Int) (d : PyData)
  | swap (c : Int) (o n : PyData)
def rwD : Rw → PyData
  | .read c => .tuple [.str "read", .int c]
  | .write c d => .tuple [.str "write", .int c, d]
  | .swap c o n => .tuple [.str "swap", .int c, o, n]
def cellAt (cells : List PyData) (c : Int) : PyData := cells[c.toNat]?.getD .none
def rwCells (cells : List PyData) : Rw → List PyData
  | .read _ => cells
  | .write c d => cells.set c.toNat d
  | .swap c o n => if PyData.eqv (cellAt cells c) o = true then cells.set c.toNat n else cells
def rwVal (cells : List PyData) : Rw → PyData
  | .read c => cellAt cells c
  | .write _ _ => .none
  | .swap c o _ => .bool (PyData.eqv (cellAt cells c) o)
def logD (n p : Int) (d : PyData) : PyData := .tuple [.int n, .int p, d]
def rwNext (s : MS) (p : Int) (r : Rw) : MS := ⟨s.n + 1, rwCells s.cells r, s.bufs, s.boxes, s.log ++ [logD ((s.n + 1 : Nat)) p (rwD r)]⟩
def RwOk (s : MS) : Rw → Prop
  | .read c => 0 ≤ c ∧ c < (s.cells.length : Int)
  | .write c d => (0 ≤ c ∧ c < (s.cells.length : Int)) ∧ noL d = true ∧ Sh 20 d
  | .swap c o n => (0 ≤ c ∧ c < (s.cells.length : Int)) ∧ Sh 20 o ∧ noL n = true ∧ Sh 20 n
theorem rwCells_len (cells : List PyData) (r : Rw) : (rwCells cells r).length = cells.length := by
  cases r with
  | read c => rfl
  | write c d => exact List.length_set
  | swap c o n =>
    show (if PyData.eqv (cellAt cells c) o = true then cells.set c.toNat n else cells).length = _
    split
    · exact List.length_set
    · rfl
theorem shs_set {ds : List PyData} (h : Shs ds) {d : PyData} (n : noL d = true) (s : Sh 20 d) (i : Nat) : Shs (ds.set i d) := fun x hx => by
  rcases List.mem_or_eq_of_mem_set hx with hx | rfl
  · exact h x hx
  · exact ⟨n, s⟩
theorem rw_shs {s : MS} {r : Rw} (h : Shs s.cells) (k : RwOk s r) : Shs (rwCells s.cells r) := by
  cases r with
  | read c => exact h
  | write c d => exact shs_set h k.2.1 k.2.2 _
  | swap c o n =>
    show Shs (if PyData.eqv (cellAt s.cells c) o = true then s.cells.set c.toNat n else s.cells)
    split
    · exact shs_set h k.2.2.1 k.2.2.2 _
    · exact h
/-- behind the count and the log -/
def spRes (K : PySem.W.Frag) (C : Cl4) : Sp := fun vs H Q _ => ∃ (x : MX) (s : MS) (p : Int) (t : Addr) (r : Rw), vs = [.ref x.m, .int p, .ref t] ∧ MemAt K C H x s ∧ Dp K H (.ref t) (rwD r) ∧ RwOk s r ∧
  ∀ H' v, Keep [x.m, x.cl, x.lg] H H' → KT H H' → MemAt K C H' x ⟨s.n, rwCells s.cells r, s.bufs, s.boxes, s.log⟩ → Dp K H' v (rwVal s.cells r) → Q v H'
def spSwapM (K : PySem.W.Frag) (C : Cl4) : Sp := fun vs H Q _ => ∃ (x : MX) (s : MS) (c : Int) (vo vn : V) (o n : PyData), vs = [.ref x.m, .int c, vo, vn] ∧ MemAt K C H x s ∧ Dp K H vo o ∧ Dp K H vn n ∧ RwOk s (.swap c o n) ∧
  ∀ H', Keep [x.m, x.cl, x.lg] H H' → KT H H' → MemAt K C H' x ⟨s.n, rwCells s.cells (.swap c o n), s.bufs, s.boxes, s.log⟩ → Q (.bl (PyData.eqv (cellAt s.cells c) o)) H'
def spAccess (K : PySem.W.Frag) (C : Cl4) (N : Addr) : Sp := fun vs H Q E => ∃ (x : MX) (s : MS) (p : Int) (y : V) (d : PyData), vs = [.ref x.m, .int p, y] ∧ MemAt K C H x s ∧ Dp K H y d ∧ FewR d ∧ noL d = true ∧ Sh 15 d ∧ s.n ≤ 100000 ∧
  (reqD d x.p x.f x.b = true → ∃ r, d = rwD r) ∧
  (∀ r, d = rwD r → reqD d x.p x.f x.b = true → (0 ≤ p ∧ p < x.p) → ∀ H' v t, Keep [x.m, x.cl, x.lg] H H' → KT H H' → MemAt K C H' x (rwNext s p r) → H' t = some (.tup [v, .int ((s.n + 1 : Nat))]) → Dp K H' v (rwVal s.cells r) → Q (.ref t) H') ∧
  ((reqD d x.p x.f x.b = false ∨ ¬ (0 ≤ p ∧ p < x.p)) → ∀ H', Same H H' → E (.ref N) none H')
theorem dpAll_set {K : PySem.W.Frag} {H : Hp} {v : V} {d : PyData} (h : Dp K H v d) : ∀ {xs : List V} {ds : List PyData} (i : Nat), DpAll K H xs ds → DpAll K H (xs.set i v) (ds.set i d)
  | _, _, _, .nil => .nil
  | _, _, 0, .cons _ b => .cons h b
  | _, _, i + 1, .cons a b => .cons a (dpAll_set h i b)
theorem set_cells {K : PySem.W.Frag} {C : Cl4} {H : Hp} {x : MX} {s : MS} {vs : List V} {j : Nat} {v : V} {n : PyData} (hM : MemAt K C H x s) (hc : H x.cl = some (.lst vs)) (hd : DpAll K H vs s.cells) (hn : Dp K H v n) (nn : noL n = true) (sn : Sh 20 n) :
    MemAt K C (upd H x.cl (.lst (vs.set j v))) x ⟨s.n, s.cells.set j n, s.bufs, s.boxes, s.log⟩ := by
  have nd := hM.ndL
  simp only [List.nodup_cons, List.mem_cons, not_or] at nd
  have kt : KT H (upd H x.cl (.lst (vs.set j v))) := KT.lst hc
  obtain ⟨vl, hl, hld⟩ := hM.log
  refine hM.re kt (Keep.put (by simp)) ((upd_ne (ne_of hM.ins hc (fun z => nomatch z))).trans hM.ins) ⟨_, upd_same, dpAll_set (dp_keep kt nn hn) j (dpAll_keep kt hM.shC.no hd)⟩ ⟨vl, (upd_ne (Ne.symm nd.2.2.1.1)).trans hl, dpAll_keep kt hM.shL.no hld⟩ List.length_set hM.lenL (shs_set hM.shC nn sn j) hM.shL
theorem parts_at (z : Str) : partsOf "read" = some (["cell"] : List Str) ∧ partsOf "write" = some (["cell", "value"] : List Str) ∧ partsOf "swap" = some (["cell", "value", "value"] : List Str) := ⟨by decide +kernel, by decide +kernel, by decide +kernel⟩
theorem below_at {c n : Int} (h : belowD (.int c) n = true) : 0 ≤ c ∧ c < n := by
  simp only [belowD, Bool.and_eq_true, decide_eq_true_eq] at h
  exact h
theorem req_ok {s : MS} {r : Rw} {p f b : Int} (hl : (s.cells.length : Int) = cellsN p f b) (e : reqD (rwD r) p f b = true) (n : noL (rwD r) = true) (sh : Sh 20 (rwD r)) : RwOk s r := by
  obtain ⟨p1, p2, p3⟩ := parts_at ""
  have cK : boundK "cell" p f b = cellsN p f b := by unfold boundK; rw [if_pos rfl]
  have c1 : ∀ d, partD d "cell" p f b = belowD d (cellsN p f b) := fun d => by
    unfold partD
    rw [if_neg (by decide +kernel), if_neg (by decide +kernel), cK]
  cases r with
  | read c =>
    have e2 : reqL "read" [.int c] p f b = true := e
    unfold reqL at e2
    rw [p1] at e2
    simp only [List.length_cons, List.length_nil, List.zip_cons_cons, List.zip_nil_left, List.all_cons, List.all_nil, c1, Bool.and_true, Bool.and_eq_true] at e2
    have := below_at e2.2
    exact ⟨this.1, by omega⟩
  | write c d =>
    have e2 : reqL "write" [.int c, d] p f b = true := e
    unfold reqL at e2
    rw [p2] at e2
    simp only [List.length_cons, List.length_nil, List.zip_cons_cons, List.zip_nil_left, List.all_cons, List.all_nil, c1, Bool.and_true, Bool.and_eq_true] at e2
    have := below_at e2.2.1
    refine ⟨⟨this.1, by omega⟩, ?_, Sh.elem sh (by simp)⟩
    simp only [rwD, noL, noLs, Bool.and_eq_true] at n
    exact n.2.2.1
  | swap c o m =>
    have e2 : reqL "swap" [.int c, o, m] p f b = true := e
    unfold reqL at e2
    rw [p3] at e2
    simp only [List.length_cons, List.length_nil, List.zip_cons_cons, List.zip_nil_left, List.all_cons, List.all_nil, c1, Bool.and_true, Bool.and_eq_true] at e2
    have := below_at e2.2.1
    refine ⟨⟨this.1, by omega⟩, Sh.elem sh (by simp), ?_, Sh.elem sh (by simp)⟩
    simp only [rwD, noL, noLs, Bool.and_eq_true] at n
    exact n.2.2.2.1
/-! ### a list of the law's own, apart from the memory -/
structure Off (H : Hp) (x : MX) (q : Addr) : Prop where
  fix : q ∉ x.bl :: x.xl :: x.cl :: x.lg :: x.xs.map fun y => y.2.2
  ent : ∀ y ∈ x.bs, ∀ (D e l : Addr), H y.1 = some (.ins D e [("_entries", .ref l)]) → l ≠ q
theorem buf_of {K : PySem.W.Frag} {C : Cl4} {H : Hp} {x : MX} {s : MS} (h : MemAt K C H x s) {y : Addr × Addr} (hy : y ∈ x.bs) : ∃ l zs, BufAt C.Cb H y.1 y.2 l zs := by
  obtain ⟨i, hi, e⟩ := List.mem_iff_getElem.mp hy
  have hb := h.lenB.2
  obtain ⟨l, zs, h1, _⟩ := h.buf i y _ (by rw [List.getElem?_eq_getElem hi, e]) (List.getElem?_eq_getElem (by omega : i < s.bufs.length))
  exact ⟨l, _, h1⟩
theorem box_of {K : PySem.W.Frag} {C : Cl4} {H : Hp} {x : MX} {s : MS} (h : MemAt K C H x s) {y : Addr × Addr × Addr} (hy : y ∈ x.xs) : ∃ vs, BoxAt C.Cx H y.1 y.2.1 y.2.2 vs := by
  obtain ⟨i, hi, e⟩ := List.mem_iff_getElem.mp hy
  have hb := h.lenX.2
  obtain ⟨vs, h1, _⟩ := h.box i y _ (by rw [List.getElem?_eq_getElem hi, e]) (List.getElem?_eq_getElem (by omega : i < s.boxes.length))
  exact ⟨vs, h1⟩
theorem Off.fresh {K : PySem.W.Frag} {C : Cl4} {H : Hp} {x : MX} {s : MS} {q : Addr} (h : MemAt K C H x s) (hq : H q = none) : Off H x q := by
  obtain ⟨_, hc, _⟩ := h.cells
  obtain ⟨_, hl, _⟩ := h.log
  refine ⟨fun z => ?_, fun y hy D e l hl z => ?_⟩
  · rcases List.mem_cons.mp z with e | z
    · rw [e, h.bl] at hq; cases hq
    rcases List.mem_cons.mp z with e | z
    · rw [e, h.xl] at hq; cases hq
    rcases List.mem_cons.mp z with e | z
    · rw [e, hc] at hq; cases hq
    rcases List.mem_cons.mp z with e | z
    · rw [e, hl] at hq; cases hq
    · obtain ⟨y, hy, e⟩ := List.mem_map.mp z
      obtain ⟨_, h1⟩ := box_of h hy
      have := h1.lst
      rw [e, hq] at this
      cases this
  · obtain ⟨l2, _, h1⟩ := buf_of h hy
    have h2 := h1.ins
    rw [hl] at h2
    injection h2 with h2
    injection h2 with _ _ h2
    injection h2 with h2 _
    injection h2 with _ h2
    injection h2 with h2
    have h3 := h1.lst
    rw [← h2, z, hq] at h3
    cases h3
/-- the buffers stand as they stood -/
theorem Off.mv {K : PySem.W.Frag} {C : Cl4} {H H' : Hp} {x : MX} {s : MS} {q : Addr} (o : Off H x q) (h : MemAt K C H x s) (e : ∀ y ∈ x.bs, ∀ u, H y.1 = some u → H' y.1 = some u) : Off H' x q := by
  refine ⟨o.fix, fun y hy D ex l hl => ?_⟩
  obtain ⟨l2, _, h1⟩ := buf_of h hy
  have h2 := e y hy _ h1.ins
  rw [hl] at h2
  have h3 := h1.ins
  rw [← h2] at h3
  exact o.ent y hy D ex l h3
theorem bufs_off {K : PySem.W.Frag} {C : Cl4} {H : Hp} {x : MX} {s : MS} (h : MemAt K C H x s) : ∀ y ∈ x.bs, y.1 ∉ [x.m, x.cl, x.lg] := fun y hy z => by
  obtain ⟨l2, _, h1⟩ := buf_of h hy
  obtain ⟨_, hc, _⟩ := h.cells
  obtain ⟨_, hl, _⟩ := h.log
  simp only [List.mem_cons, List.not_mem_nil, or_false] at z
  rcases z with z | z | z
  · exact h.ndI y hy z
  · exact ne_of h1.ins hc (fun q => nomatch q) z
  · exact ne_of h1.ins hl (fun q => nomatch q) z
theorem Off.same {K : PySem.W.Frag} {C : Cl4} {H H' : Hp} {x : MX} {s : MS} {q : Addr} (o : Off H x q) (h : MemAt K C H x s) (e : Same H H') : Off H' x q := o.mv h fun _ _ u hu => e _ _ hu
theorem Off.keep {K : PySem.W.Frag} {C : Cl4} {H H' : Hp} {x : MX} {s : MS} {q : Addr} (o : Off H x q) (h : MemAt K C H x s) (e : Keep [x.m, x.cl, x.lg] H H') : Off H' x q := o.mv h fun y hy u hu => e _ _ (bufs_off h y hy) hu
theorem Off.put {K : PySem.W.Frag} {C : Cl4} {H : Hp} {x : MX} {s : MS} {q r : Addr} {vs : List V} {u : HO} (o : Off H x q) (h : MemAt K C H x s) (hr : H r = some (.lst vs)) : Off (upd H r u) x q := o.mv h fun y hy w hw => by
  obtain ⟨l2, _, h1⟩ := buf_of h hy
  rw [upd_ne (ne_of h1.ins hr (fun q => nomatch q))]
  exact hw
/-- a list of one's own is written -/
theorem MemAt.aside {K : PySem.W.Frag} {C : Cl4} {H : Hp} {x : MX} {s : MS} {q : Addr} {vs : List V} {ws : List V} (h : MemAt K C H x s) (hq : H q = some (.lst vs)) (o : Off H x q) : MemAt K C (upd H q (.lst ws)) x s := by
  have kt : KT H (upd H q (.lst ws)) := KT.lst hq
  have fx := o.fix
  simp only [List.mem_cons, not_or] at fx
  have ne : ∀ {y D e : Addr} {fs : List (Str × V)}, H y = some (.ins D e fs) → y ≠ q := fun hy => ne_of hy hq (fun z => nomatch z)
  exact {
    ins := (upd_ne (ne h.ins)).trans h.ins
    sz := (upd_ne (ne h.sz)).trans h.sz
    okS := h.okS
    bl := (upd_ne (Ne.symm fx.1)).trans h.bl
    xl := (upd_ne (Ne.symm fx.2.1)).trans h.xl
    cells := by
      obtain ⟨v, h1, h2⟩ := h.cells
      exact ⟨v, (upd_ne (Ne.symm fx.2.2.1)).trans h1, dpAll_keep kt h.shC.no h2⟩
    log := by
      obtain ⟨v, h1, h2⟩ := h.log
      exact ⟨v, (upd_ne (Ne.symm fx.2.2.2.1)).trans h1, dpAll_keep kt h.shL.no h2⟩
    buf := fun i y es h1 h2 => by
      obtain ⟨l, zs, h3, h4, h5, h6⟩ := h.buf i y es h1 h2
      exact ⟨l, zs, ⟨(upd_ne (ne h3.ins)).trans h3.ins, (upd_ne (o.ent y (mem_of_get h1) _ _ l h3.ins)).trans h3.lst⟩, h4.kt kt, h5, h6⟩
    box := fun i y ls h1 h2 => by
      obtain ⟨v, h3, h4⟩ := h.box i y ls h1 h2
      have hy : y.2.2 ∈ x.xs.map fun y => y.2.2 := List.mem_map.mpr ⟨y, mem_of_get h1, rfl⟩
      exact ⟨v, ⟨(upd_ne (ne h3.ins)).trans h3.ins, (upd_ne (fun z : y.2.2 = q => fx.2.2.2.2 (by rw [← z]; exact hy))).trans h3.lst⟩, dpAll_keep kt (h.shX ls (mem_of_get h2)).no h4⟩
    lenC := h.lenC
    lenB := h.lenB
    lenX := h.lenX
    lenL := h.lenL
    shC := h.shC
    shL := h.shL
    shX := h.shX
    lim := h.lim
    ndL := h.ndL
    ndB := h.ndB
    ndI := h.ndI }
/-! ### the law's values -/
structure Cok (d : PyData) : Prop where
  no : noL d = true
  sh : Sh 2 d
  val : valueD d = true
  few : FewD d
def RwGood (n : Int) : Rw → Prop
  | .read c => 0 ≤ c ∧ c < n
  | .write c d => (0 ≤ c ∧ c < n) ∧ Cok d
  | .swap c o m => (0 ≤ c ∧ c < n) ∧ Cok o ∧ Cok m
theorem rw_req {r : Rw} {p f b : Int} (h : RwGood (cellsN p f b) r) : reqD (rwD r) p f b = true ∧ noL (rwD r) = true ∧ Sh 15 (rwD r) ∧ FewR (rwD r) := by
  obtain ⟨p1, p2, p3⟩ := parts_at ""
  have cK : boundK "cell" p f b = cellsN p f b := by unfold boundK; rw [if_pos rfl]
  have c1 : ∀ d, partD d "cell" p f b = belowD d (cellsN p f b) := fun d => by
    unfold partD
    rw [if_neg (by decide +kernel), if_neg (by decide +kernel), cK]
  have v1 : ∀ d, partD d "value" p f b = valueD d := fun d => by
    unfold partD
    rw [if_pos rfl]
  have bl : ∀ {c : Int}, 0 ≤ c ∧ c < cellsN p f b → belowD (.int c) (cellsN p f b) = true := fun {c} k => by simp only [belowD, decide_eq_true k.1, decide_eq_true k.2, Bool.and_self]
  have sR : Sh 0 (.str "read") := sh_str _ (by decide +kernel)
  have sW : Sh 0 (.str "write") := sh_str _ (by decide +kernel)
  have sS : Sh 0 (.str "swap") := sh_str _ (by decide +kernel)
  have fs : ∀ z : Str, FewD (.str z) := fun z t ps e => by cases e
  have fi : ∀ z : Int, FewD (.int z) := fun z t ps e => by cases e
  cases r with
  | read c =>
    refine ⟨?_, rfl, (sh_tup (n := 2) (sh_c (sR.up (by decide)) (sh_c ((sh_int _).up (by decide)) sh_n))).up (by decide), ⟨fun ds e => ?_, fun ds e x hx => ?_⟩⟩
    · show reqL "read" [.int c] p f b = true
      unfold reqL
      rw [p1]
      simp only [List.length_cons, List.length_nil, List.zip_cons_cons, List.zip_nil_left, List.all_cons, List.all_nil, c1, bl h]
      rfl
    · cases e
      show _ ≤ 100
      simp
    · cases e
      simp only [List.mem_cons, List.not_mem_nil, or_false] at hx
      rcases hx with rfl | rfl
      · exact fs _
      · exact fi _
  | write c d =>
    refine ⟨?_, by simp only [rwD, noL, noLs, h.2.no, Bool.and_self], (sh_tup (n := 2) (sh_c (sW.up (by decide)) (sh_c ((sh_int _).up (by decide)) (sh_c h.2.sh sh_n)))).up (by decide), ⟨fun ds e => ?_, fun ds e x hx => ?_⟩⟩
    · show reqL "write" [.int c, d] p f b = true
      unfold reqL
      rw [p2]
      simp only [List.length_cons, List.length_nil, List.zip_cons_cons, List.zip_nil_left, List.all_cons, List.all_nil, c1, v1, bl h.1, h.2.val]
      rfl
    · cases e
      show _ ≤ 100
      simp
    · cases e
      simp only [List.mem_cons, List.not_mem_nil, or_false] at hx
      rcases hx with rfl | rfl | rfl
      · exact fs _
      · exact fi _
      · exact h.2.few
  | swap c o m =>
    refine ⟨?_, by simp only [rwD, noL, noLs, h.2.1.no, h.2.2.no, Bool.and_self], (sh_tup (n := 2) (sh_c (sS.up (by decide)) (sh_c ((sh_int _).up (by decide)) (sh_c h.2.1.sh (sh_c h.2.2.sh sh_n))))).up (by decide), ⟨fun ds e => ?_, fun ds e x hx => ?_⟩⟩
    · show reqL "swap" [.int c, o, m] p f b = true
      unfold reqL
      rw [p3]
      simp only [List.length_cons, List.length_nil, List.zip_cons_cons, List.zip_nil_left, List.all_cons, List.all_nil, c1, v1, bl h.1, h.2.1.val, h.2.2.val]
      rfl
    · cases e
      show _ ≤ 100
      simp
    · cases e
      simp only [List.mem_cons, List.not_mem_nil, or_false] at hx
      rcases hx with rfl | rfl | rfl | rfl
      · exact fs _
      · exact fi _
      · exact h.2.1.few
      · exact h.2.2.few
def Coks (ds : List PyData) : Prop := ∀ d ∈ ds, Cok d
theorem coks_set {ds : List PyData} (h : Coks ds) {d : PyData} (k : Cok d) (i : Nat) : Coks (ds.set i d) := fun x hx => by
  rcases List.mem_or_eq_of_mem_set hx with hx | rfl
  · exact h x hx
  · exact k
theorem rw_coks {ds : List PyData} {n : Int} {r : Rw} (h : Coks ds) (k : RwGood n r) : Coks (rwCells ds r) := by
  cases r with
  | read c => exact h
  | write c d => exact coks_set h k.2 _
  | swap c o m =>
    show Coks (if PyData.eqv (cellAt ds c) o = true then ds.set c.toNat m else ds)
    split
    · exact coks_set h k.2.2 _
    · exact h
theorem rw_val {ds : List PyData} {n : Int} {r : Rw} (h : Coks ds) (k : RwGood n r) (hn : n ≤ (ds.length : Int)) : Sh 20 (rwVal ds r) := by
  cases r with
  | read c =>
    have hj : c.toNat < ds.length := by have := k.1; have := k.2; omega
    show Sh 20 (ds[c.toNat]?.getD .none)
    rw [List.getElem?_eq_getElem hj]
    exact (h _ (List.getElem_mem hj)).sh.up (by decide)
  | write c d => exact sh_none.up (by decide)
  | swap c o m => exact (sh_bool _).up (by decide)
end Ak
/-! Stacks of machines: a call of one of two classes; an own instance beside the memory is written. -/
namespace Sk
open PySem PySem.Spec PyProof.Rows L2 Dk Ek Nk Wk Lk Fk Mk Ak
theorem pe_alt {X : Cx} {e : Expr} {ta tb : TE} (ha : PE X e ta) (hb : PE X e tb) : PE X e (fun σ H Q => ta σ H Q ∨ tb σ H Q) :=
  ⟨fun pins s σ H Q I h => h.elim (ha.run pins s σ H Q I) (hb.run pins s σ H Q I)⟩
/-- an instance of the kernel's own is written -/
theorem MemAt.asideI {K : PySem.W.Frag} {C : Cl4} {H : Hp} {x : MX} {s : MS} {q D e : Addr} {nm : Str} {v : V} {fs : List (Str × V)} {u : HO} (h : MemAt K C H x s) (hq : H q = some (.ins D e ((nm, v) :: fs)))
    (hn : nm ≠ "sizes" ∧ nm ≠ "processors" ∧ nm ≠ "_entries" ∧ nm ≠ "_letters") : MemAt K C (upd H q u) x s := by
  have kt : KT H (upd H q u) := KT.ins hq
  have nl : ∀ {y : Addr} {xs : List V}, H y = some (.lst xs) → y ≠ q := fun hy => ne_of hy hq (fun z => nomatch z)
  have ni : ∀ {y E g : Addr} {m : Str} {w : V} {gs : List (Str × V)}, H y = some (.ins E g ((m, w) :: gs)) → nm ≠ m → y ≠ q := fun hy n z => by
    rw [z, hq] at hy
    injection hy with hy
    injection hy with _ _ hy
    injection hy with hy _
    injection hy with hy _
    exact n hy
  exact {
    ins := (upd_ne (ni h.ins hn.1)).trans h.ins
    sz := (upd_ne (ni h.sz hn.2.1)).trans h.sz
    okS := h.okS
    bl := (upd_ne (nl h.bl)).trans h.bl
    xl := (upd_ne (nl h.xl)).trans h.xl
    cells := by
      obtain ⟨v, h1, h2⟩ := h.cells
      exact ⟨v, (upd_ne (nl h1)).trans h1, dpAll_keep kt h.shC.no h2⟩
    log := by
      obtain ⟨v, h1, h2⟩ := h.log
      exact ⟨v, (upd_ne (nl h1)).trans h1, dpAll_keep kt h.shL.no h2⟩
    buf := fun i y es h1 h2 => by
      obtain ⟨l, zs, h3, h4, h5, h6⟩ := h.buf i y es h1 h2
      exact ⟨l, zs, ⟨(upd_ne (ni h3.ins hn.2.2.1)).trans h3.ins, (upd_ne (nl h3.lst)).trans h3.lst⟩, h4.kt kt, h5, h6⟩
    box := fun i y ls h1 h2 => by
      obtain ⟨v, h3, h4⟩ := h.box i y ls h1 h2
      exact ⟨v, ⟨(upd_ne (ni h3.ins hn.2.2.2)).trans h3.ins, (upd_ne (nl h3.lst)).trans h3.lst⟩, dpAll_keep kt (h.shX ls (mem_of_get h2)).no h4⟩
    lenC := h.lenC
    lenB := h.lenB
    lenX := h.lenX
    lenL := h.lenL
    shC := h.shC
    shL := h.shL
    shX := h.shX
    lim := h.lim
    ndL := h.ndL
    ndB := h.ndB
    ndI := h.ndI }
theorem Off.putI {K : PySem.W.Frag} {C : Cl4} {H : Hp} {x : MX} {s : MS} {p q D e : Addr} {nm : Str} {v : V} {fs : List (Str × V)} {u : HO} (o : Off H x p) (h : MemAt K C H x s) (hq : H q = some (.ins D e ((nm, v) :: fs)))
    (hn : nm ≠ "_entries") : Off (upd H q u) x p := Ak.Off.mv o h fun y hy w hw => by
  obtain ⟨l2, _, h1⟩ := buf_of h hy
  have : y.1 ≠ q := fun z => by
    have h2 := h1.ins
    rw [z, hq] at h2
    injection h2 with h2
    injection h2 with _ _ h2
    injection h2 with h2 _
    injection h2 with h2 _
    exact hn h2
  rw [upd_ne this]
  exact hw
/-- an address beside the memory -/
def Apart (H : Hp) (x : MX) (c : Addr) : Prop := (∃ (D e : Addr) (nm : Str) (v : V) (fs : List (Str × V)), H c = some (.ins D e ((nm, v) :: fs)) ∧ nm ≠ "sizes" ∧ nm ≠ "processors" ∧ nm ≠ "_entries" ∧ nm ≠ "_letters") ∨ ((∃ vs, H c = some (.lst vs)) ∧ Off H x c)
theorem Apart.ni {H : Hp} {x : MX} {c E g : Addr} {m : Str} {w : V} {gs : List (Str × V)} (a : Apart H x c) (hy : H c = some (.ins E g ((m, w) :: gs))) (hm : m = "sizes" ∨ m = "processors" ∨ m = "_entries" ∨ m = "_letters") : False := by
  rcases a with ⟨D, e, nm, v, fs, hc, n1, n2, n3, n4⟩ | ⟨⟨vs, hc⟩, _⟩
  · rw [hc] at hy
    injection hy with hy
    injection hy with _ _ hy
    injection hy with hy _
    injection hy with hy _
    subst hy
    rcases hm with h | h | h | h
    · exact n1 h
    · exact n2 h
    · exact n3 h
    · exact n4 h
  · rw [hc] at hy
    cases hy
theorem Apart.off {H : Hp} {x : MX} {c : Addr} {vs : List V} (a : Apart H x c) (hy : H c = some (.lst vs)) : Off H x c := by
  rcases a with ⟨D, e, nm, v, fs, hc, _⟩ | ⟨_, o⟩
  · rw [hc] at hy
    cases hy
  · exact o
theorem MemAt.apart {K : PySem.W.Frag} {C : Cl4} {H H' : Hp} {x : MX} {s : MS} {L : List Addr} (h : MemAt K C H x s) (kt : KT H H') (kp : Keep L H H') (ap : ∀ c ∈ L, Apart H x c) : MemAt K C H' x s := by
  have ni : ∀ {y E g : Addr} {m : Str} {w : V} {gs : List (Str × V)}, H y = some (.ins E g ((m, w) :: gs)) → (m = "sizes" ∨ m = "processors" ∨ m = "_entries" ∨ m = "_letters") → H' y = some (.ins E g ((m, w) :: gs)) := fun hy n => kp _ _ (fun z => (ap _ z).ni hy n) hy
  have nl : ∀ {y : Addr} {xs : List V}, H y = some (.lst xs) → (Off H x y → False) → H' y = some (.lst xs) := fun hy n => kp _ _ (fun z => n ((ap _ z).off hy)) hy
  have fx : ∀ {y : Addr}, y ∈ x.bl :: x.xl :: x.cl :: x.lg :: (x.xs.map fun y => y.2.2) → Off H x y → False := fun hy o => o.fix hy
  exact {
    ins := ni h.ins (.inl rfl)
    sz := ni h.sz (.inr (.inl rfl))
    okS := h.okS
    bl := nl h.bl (fx (by simp))
    xl := nl h.xl (fx (by simp))
    cells := by
      obtain ⟨v, h1, h2⟩ := h.cells
      exact ⟨v, nl h1 (fx (by simp)), dpAll_keep kt h.shC.no h2⟩
    log := by
      obtain ⟨v, h1, h2⟩ := h.log
      exact ⟨v, nl h1 (fx (by simp)), dpAll_keep kt h.shL.no h2⟩
    buf := fun i y es h1 h2 => by
      obtain ⟨l, zs, h3, h4, h5, h6⟩ := h.buf i y es h1 h2
      exact ⟨l, zs, ⟨ni h3.ins (.inr (.inr (.inl rfl))), nl h3.lst fun o => o.ent y (mem_of_get h1) _ _ l h3.ins rfl⟩, h4.kt kt, h5, h6⟩
    box := fun i y ls h1 h2 => by
      obtain ⟨v, h3, h4⟩ := h.box i y ls h1 h2
      have hy : y.2.2 ∈ x.xs.map fun y => y.2.2 := List.mem_map.mpr ⟨y, mem_of_get h1, rfl⟩
      exact ⟨v, ⟨ni h3.ins (.inr (.inr (.inr rfl))), nl h3.lst (fx (by simp only [List.mem_cons]; exact .inr (.inr (.inr (.inr hy)))))⟩, dpAll_keep kt (h.shX ls (mem_of_get h2)).no h4⟩
    lenC := h.lenC
    lenB := h.lenB
    lenX := h.lenX
    lenL := h.lenL
    shC := h.shC
    shL := h.shL
    shX := h.shX
    lim := h.lim
    ndL := h.ndL
    ndB := h.ndB
    ndI := h.ndI }
theorem Off.apart {K : PySem.W.Frag} {C : Cl4} {H H' : Hp} {x : MX} {s : MS} {q : Addr} {L : List Addr} (o : Off H x q) (h : MemAt K C H x s) (kp : Keep L H H') (ap : ∀ c ∈ L, Apart H x c) : Off H' x q :=
  Ak.Off.mv o h fun y hy w hw => kp _ _ (fun z => by
    obtain ⟨l2, _, h1⟩ := buf_of h hy
    exact (ap _ z).ni h1.ins (.inr (.inr (.inl rfl)))) hw
theorem cok_int (z : Int) : Cok (.int z) := ⟨rfl, (sh_int _).up (by decide), rfl, fun t ps e => by cases e⟩
/-- what an access leaves as it was -/
theorem keepI {K : PySem.W.Frag} {C : Cl4} {H : Hp} {x : MX} {s : MS} {q D e : Addr} {nm : Str} {v : V} {fs : List (Str × V)} (h : MemAt K C H x s) (hq : H q = some (.ins D e ((nm, v) :: fs))) (hn : nm ≠ "sizes") : q ∉ [x.m, x.cl, x.lg] := fun z => by
  obtain ⟨_, hc, _⟩ := h.cells
  obtain ⟨_, hl, _⟩ := h.log
  simp only [List.mem_cons, List.not_mem_nil, or_false] at z
  rcases z with z | z | z
  · have h1 := h.ins
    rw [← z, hq] at h1
    injection h1 with h1
    injection h1 with _ _ h1
    injection h1 with h1 _
    injection h1 with h1 _
    exact hn h1
  · exact ne_of hq hc (fun y => nomatch y) z
  · exact ne_of hq hl (fun y => nomatch y) z
theorem keepL {K : PySem.W.Frag} {C : Cl4} {H : Hp} {x : MX} {s : MS} {q : Addr} {vs : List V} (h : MemAt K C H x s) (hq : H q = some (.lst vs)) (o : Off H x q) : q ∉ [x.m, x.cl, x.lg] := fun z => by
  have fx := o.fix
  simp only [List.mem_cons, not_or] at fx
  simp only [List.mem_cons, List.not_mem_nil, or_false] at z
  rcases z with z | z | z
  · exact ne_of hq h.ins (fun y => nomatch y) z
  · exact fx.2.2.1 z
  · exact fx.2.2.2.1 z
/-! ### the machines of the lock -/
structure Mac where
  (b : Bool) (q dx t : Addr)
structure Stk where
  (q dx l : Addr) (m : Mac)
structure Cl3 where
  (Ck Cs Cl Cu : Addr)
def macC (C : Cl3) : Bool → Addr
  | true => C.Cl
  | false => C.Cu
def macN : Bool → Str
  | true => "_attempt"
  | false => "_giving"
def macR : Bool → Int → Rw
  | true, p => .swap 0 (.int 0) (.int (p + 1))
  | false, _ => .write 0 (.int 0)
def macT : Bool → Int → List V
  | true, p => [.str "swap", .int 0, .int 0, .int (p + 1)]
  | false, _ => [.str "write", .int 0, .int 0]
structure MacAt (C : Cl3) (H : Hp) (y : Mac) (p : Int) (v : V) : Prop where
  ins : H y.q = some (.ins (macC C y.b) y.dx [(macN y.b, .ref y.t), ("_number", v)])
  tup : H y.t = some (.tup (macT y.b p))
theorem MacAt.dp {K : PySem.W.Frag} {C : Cl3} {H : Hp} {y : Mac} {p : Int} {v : V} (h : MacAt C H y p v) : Dp K H (.ref y.t) (rwD (macR y.b p)) := by
  have ht := h.tup
  cases e : y.b with
  | true =>
    rw [e] at ht
    exact .tup (SqT.of ht) (.cons (.str _) (.cons (.int _) (.cons (.int _) (.cons (.int _) .nil))))
  | false =>
    rw [e] at ht
    exact .tup (SqT.of ht) (.cons (.str _) (.cons (.int _) (.cons (.int _) .nil)))
structure StkAt (C : Cl3) (H : Hp) (y : Stk) (ms : List V) (v : V) : Prop where
  ins : H y.q = some (.ins C.Cs y.dx [("_machines", .ref y.l), ("_value", v)])
  lst : H y.l = some (.lst ms)
def spKerInit (K : PySem.W.Frag) (C4 : Cl4) (C : Cl3) : Sp := fun vs H Q _ => ∃ (k dx : Addr) (x : MX) (s : MS), vs = [.ref k, .ref x.m] ∧ H k = some (.ins C.Ck dx []) ∧ MemAt K C4 H x s ∧
  ∀ H' fs, SameBut k H H' → H' k = some (.ins C.Ck dx (("memory", .ref x.m) :: fs)) → List.lookup ("sizes" : Str) (("memory", V.ref x.m) :: fs) = some (.ref x.z) → Q .non H'
def spLockInit (C : Cl3) (Cs : Addr) : Sp := fun vs H Q _ => ∃ (q dx k dk z dz : Addr) (fs : List (Str × V)) (n f b p : Int), vs = [.ref q, .ref k, .int p] ∧ H q = some (.ins C.Cl dx []) ∧ H k = some (.ins C.Ck dk fs) ∧ fs.lookup ("sizes" : Str) = some (.ref z) ∧
  H z = some (.ins Cs dz (szF n f b)) ∧ ∀ H' t, SameBut q H H' → H t = none → MacAt C H' ⟨true, q, dx, t⟩ p .non → Q .non H'
def spUnlockInit (C : Cl3) (Cs : Addr) : Sp := fun vs H Q _ => ∃ (q dx k dk z dz : Addr) (fs : List (Str × V)) (n f b : Int), vs = [.ref q, .ref k] ∧ H q = some (.ins C.Cu dx []) ∧ H k = some (.ins C.Ck dk fs) ∧ fs.lookup ("sizes" : Str) = some (.ref z) ∧
  H z = some (.ins Cs dz (szF n f b)) ∧ ∀ H' t, SameBut q H H' → H t = none → MacAt C H' ⟨false, q, dx, t⟩ 0 .non → Q .non H'
def spMReq (C : Cl3) (b : Bool) : Sp := fun vs H Q _ => ∃ (y : Mac) (p : Int) (v : V), y.b = b ∧ vs = [.ref y.q] ∧ MacAt C H y p v ∧
  ((v = .non ∧ Q (.ref y.t) H) ∨ ∃ n : Int, v = .int n ∧ ∀ t, H t = none → Q (.ref t) (upd H t (.tup [.str "end", .int n])))
def spMAcc (C : Cl3) (b : Bool) : Sp := fun vs H Q _ => ∃ (y : Mac) (p : Int) (v w : V) (t : Addr) (n : Int), y.b = b ∧ vs = [.ref y.q, .ref t] ∧ MacAt C H y p v ∧ H t = some (.tup [w, .int n]) ∧
  (b = true → ∃ c : Bool, w = .bl c) ∧ (b = true → w = .bl false → Q .non H) ∧ ((b = true → w = .bl true) → Q .non (upd H y.q (.ins (macC C y.b) y.dx [(macN y.b, .ref y.t), ("_number", .int n)])))
def spAsks (K : PySem.W.Frag) : Sp := fun vs H Q _ => ∃ (t : Addr) (ds : List PyData) (nm : Str), vs = [.ref t, .str nm] ∧ Dp K H (.ref t) (.tuple ds) ∧
  ((ds.length ≠ 2 ∧ Q (.bl false) H) ∨ ∃ (z : Str) (v : V) (d : PyData), ds = [.str z, d] ∧ SqT K H t [.str z, v] ∧ Q (.bl (decide (V.str z = V.str nm))) H)
def spStkInit (C : Cl3) : Sp := fun vs H Q _ => ∃ (q dx : Addr) (v : V), vs = [.ref q, v] ∧ H q = some (.ins C.Cs dx []) ∧
  ∀ H' l, SameBut q H H' → H l = none → l ≠ q → H' q = some (.ins C.Cs dx [("_machines", .ref l), ("_value", .non)]) → H' l = some (.lst [v]) → Q .non H'
def spEnded (C : Cl3) : Sp := fun vs H Q _ => ∃ (y : Stk) (ms : List V) (v : V), vs = [.ref y.q] ∧ StkAt C H y ms v ∧ ((ms = [] ∧ Q (.bl true) H) ∨ ∃ u, ms = [u] ∧ Q (.bl false) H)
def spStkVal (C : Cl3) : Sp := fun vs H Q _ => ∃ (y : Stk) (ms : List V) (v : V), vs = [.ref y.q] ∧ StkAt C H y ms v ∧ Q v H
def spEnd (C : Cl3) : Sp := fun vs H Q _ => ∃ (y : Stk) (u v w : V), vs = [.ref y.q, w] ∧ StkAt C H y [u] v ∧ Q .non (upd (upd H y.l (.lst [])) y.q (.ins C.Cs y.dx [("_machines", .ref y.l), ("_value", w)]))
def spSettled (C : Cl3) : Sp := fun vs H Q _ => ∃ (y : Stk) (p : Int) (v w : V), vs = [.ref y.q] ∧ StkAt C H y [.ref y.m.q] w ∧ MacAt C H y.m p v ∧
  ((v = .non ∧ Q (.ref y.m.t) H) ∨ ∃ n : Int, v = .int n ∧ ∀ H', Keep [y.q, y.l] H H' → KT H H' → StkAt C H' y [] (.int n) → Q .non H')
/-- the step is the last one -/
def lastB (b : Bool) (cells : List PyData) : Bool := !b || PyData.eqv (cellAt cells 0) (.int 0)
def spStep (K : PySem.W.Frag) (C4 : Cl4) (C : Cl3) : Sp := fun vs H Q _ => ∃ (y : Stk) (x : MX) (s : MS) (p : Int), vs = [.ref y.q, .ref x.m, .int p] ∧ MemAt K C4 H x s ∧ StkAt C H y [.ref y.m.q] .non ∧ MacAt C H y.m p .non ∧ Off H x y.l ∧
  0 ≤ p ∧ p < x.p ∧ s.n ≤ 100000 ∧
  ∀ H', Keep [x.m, x.cl, x.lg, y.q, y.l, y.m.q] H H' → KT H H' → MemAt K C4 H' x (rwNext s p (macR y.m.b p)) →
    (lastB y.m.b s.cells = false → StkAt C H' y [.ref y.m.q] .non ∧ MacAt C H' y.m p .non ∧ Keep [x.m, x.cl, x.lg] H H') →
    (lastB y.m.b s.cells = true → StkAt C H' y [] (.int ((s.n + 1 : Nat)))) → Q (.bl true) H'
theorem mach_ne (b : Bool) : ("_machines" : Str) ≠ macN b := by cases b <;> decide +kernel
theorem mac_names (b : Bool) : macN b ≠ "sizes" ∧ macN b ≠ "processors" ∧ macN b ≠ "_entries" ∧ macN b ≠ "_letters" := by
  cases b
  · exact ⟨by decide +kernel, by decide +kernel, by decide +kernel, by decide +kernel⟩
  · exact ⟨by decide +kernel, by decide +kernel, by decide +kernel, by decide +kernel⟩
theorem rwD_inj {r r2 : Rw} (e : rwD r = rwD r2) : r = r2 := by
  cases r <;> cases r2 <;> simp [rwD] at e <;> simp [e]
theorem macGood {K : PySem.W.Frag} {C : Cl4} {H : Hp} {x : MX} {s : MS} (h : MemAt K C H x s) (b : Bool) (p : Int) : RwGood (cellsN x.p x.f x.b) (macR b p) := by
  obtain ⟨⟨p0, p1⟩, ⟨f0, f1⟩, ⟨b0, b1⟩⟩ := okSz_at h.okS
  have c : 0 < cellsN x.p x.f x.b := by unfold cellsN; omega
  cases b with
  | true => exact ⟨⟨by decide, c⟩, cok_int _, cok_int _⟩
  | false => exact ⟨⟨by decide, c⟩, cok_int _⟩
end Sk
/-! Accesses that change buffers and boxes: what they leave as it was, and what they give. -/
namespace Tr
open PySem PySem.Spec PyProof.Rows L2 Dk Ek Nk Wk Lk Fk Mk Pk Ak Sk
/-! ### what does not belong to the memory -/
def Free (H : Hp) (x : MX) (q : Addr) : HO → Prop
  | .lst _ => Off H x q
  | .ins _ _ [] => False
  | .ins _ _ ((nm, _) :: _) => nm ≠ "sizes" ∧ nm ≠ "_entries"
  | _ => True
def Fr (x : MX) (H H' : Hp) : Prop := ∀ q o, H q = some o → Free H x q o → H' q = some o ∧ Free H' x q o
theorem Fr.refl (x : MX) (H : Hp) : Fr x H H := fun _ _ h f => ⟨h, f⟩
theorem Fr.trans {x : MX} {H H1 H2 : Hp} (a : Fr x H H1) (b : Fr x H1 H2) : Fr x H H2 := fun q o h f => b q o (a q o h f).1 (a q o h f).2
theorem free_t {H : Hp} {x : MX} {q : Addr} {o : HO} (h : IsT o) : Free H x q o := by
  cases o with
  | tup xs => exact True.intro
  | frz z u => exact True.intro
  | _ => exact h.elim
theorem Fr.kt {x : MX} {H H' : Hp} (a : Fr x H H') : KT H H' := fun b o h k => (a b o h (free_t k)).1
theorem Free.mv {H H' : Hp} {x : MX} {q : Addr} {o : HO} (f : Free H x q o) (e : Off H x q → Off H' x q) : Free H' x q o := by
  cases o with
  | lst xs => exact e f
  | ins C dx fs =>
    cases fs with
    | nil => exact f
    | cons y r => exact f
  | _ => exact f
theorem Fr.mk {x : MX} {H H' : Hp} (a : ∀ q o, H q = some o → Free H x q o → H' q = some o) (b : ∀ q vs, H q = some (.lst vs) → Off H x q → Off H' x q) : Fr x H H' := fun q o h f => ⟨a q o h f, by
  cases o with
  | lst xs => exact b q xs h f
  | ins C dx fs =>
    cases fs with
    | nil => exact f
    | cons y r => exact f
  | _ => exact f⟩
theorem Fr.same {K : PySem.W.Frag} {C : Cl4} {H H' : Hp} {x : MX} {s : MS} (h : MemAt K C H x s) (e : Same H H') : Fr x H H' := Fr.mk (fun q o hq _ => e _ _ hq) (fun q vs _ o => o.same h e)
/-- a list of one's own stays -/
theorem Fr.lst {x : MX} {H H' : Hp} {q : Addr} {vs : List V} (a : Fr x H H') (h : H q = some (.lst vs)) (o : Off H x q) : H' q = some (.lst vs) ∧ Off H' x q := a q _ h o
theorem Fr.seq {K : PySem.W.Frag} {x : MX} {H H' : Hp} {q : Addr} {vs : List V} (a : Fr x H H') (h : SqL K H q vs) (o : Off H x q) : SqL K H' q vs := by
  rcases h with (h | ⟨z, h⟩) | h
  · exact .inl (.inl (a q _ h o).1)
  · exact .inl (.inr ⟨z, (a q _ h True.intro).1⟩)
  · exact .inr h
/-- what is free is none of the memory's own -/
structure NotOwn (x : MX) (q : Addr) : Prop where
  m : q ≠ x.m
  cl : q ≠ x.cl
  lg : q ≠ x.lg
  bs : ∀ y ∈ x.bs, q ≠ y.1
  xs : ∀ y ∈ x.xs, q ≠ y.2.2
theorem free_own {K : PySem.W.Frag} {C : Cl4} {H : Hp} {x : MX} {s : MS} {q : Addr} {o : HO} (h : MemAt K C H x s) (hq : H q = some o) (f : Free H x q o) : NotOwn x q := by
  obtain ⟨vc, hc, _⟩ := h.cells
  obtain ⟨vl, hl, _⟩ := h.log
  have lf : ∀ {y : Addr} {vs : List V}, H y = some (.lst vs) → y ∈ x.bl :: x.xl :: x.cl :: x.lg :: (x.xs.map fun y => y.2.2) → q ≠ y := fun hy m z => by
    subst z
    rw [hq] at hy
    injection hy with hy
    subst hy
    exact f.fix m
  refine ⟨fun z => ?_, lf hc (by simp), lf hl (by simp), fun y hy z => ?_, fun y hy => ?_⟩
  · have h1 := h.ins
    rw [← z, hq] at h1
    injection h1 with h1
    subst h1
    exact f.1 rfl
  · obtain ⟨l, _, h1⟩ := buf_of h hy
    have h2 := h1.ins
    rw [← z, hq] at h2
    injection h2 with h2
    subst h2
    exact f.2 rfl
  · obtain ⟨vs, h1⟩ := box_of h hy
    exact lf h1.lst (by simp only [List.mem_cons]; exact .inr (.inr (.inr (.inr (List.mem_map.mpr ⟨y, hy, rfl⟩)))))
theorem Fr.keep {K : PySem.W.Frag} {C : Cl4} {H H' : Hp} {x : MX} {s : MS} (h : MemAt K C H x s) (e : Keep [x.m, x.cl, x.lg] H H') : Fr x H H' :=
  Fr.mk (fun q o hq f => e _ _ (by
    have n := free_own h hq f
    simp only [List.mem_cons, List.not_mem_nil, or_false, not_or]
    exact ⟨n.m, n.cl, n.lg⟩) hq) (fun q vs _ o => o.keep h e)
/-! ### a buffer is another -/
theorem bufs_ne {x : MX} (nd : (x.bs.map fun y => y.1).Nodup) {i j : Nat} {y z : Addr × Addr} (hi : x.bs[i]? = some y) (hj : x.bs[j]? = some z) (n : i ≠ j) : z.1 ≠ y.1 := fun e => by
  obtain ⟨h1, e1⟩ := List.getElem?_eq_some_iff.mp hi
  obtain ⟨h2, e2⟩ := List.getElem?_eq_some_iff.mp hj
  refine n (nodup_at nd (by rw [List.length_map]; exact h1) (by rw [List.length_map]; exact h2) ?_)
  rw [List.getElem_map, List.getElem_map, e1, e2, e]
theorem MemAt.setBuf {K : PySem.W.Frag} {C : Cl4} {H H' : Hp} {x : MX} {s : MS} {i : Nat} {y : Addr × Addr} {l : Addr} {zs : List (Addr × En)} (h : MemAt K C H x s) (hy : x.bs[i]? = some y) (sb : SameBut y.1 H H')
    (hB : BufAt C.Cb H' y.1 y.2 l (zs.map aV)) (hE : EnAll H' zs) (hl : H l = none) (lm : zs.length ≤ 2) : MemAt K C H' x ⟨s.n, s.cells, s.bufs.set i (zs.map Prod.snd), s.boxes, s.log⟩ := by
  have ym := mem_of_get hy
  obtain ⟨l0, vs0, hB0⟩ := buf_of h ym
  have kt : KT H H' := sb.kt hB0.ins
  have nl : ∀ {q : Addr} {xs : List V}, H q = some (.lst xs) → H' q = some (.lst xs) := fun hq => sb _ _ (ne_of hq hB0.ins (fun z => nomatch z)) hq
  obtain ⟨vc, hc, hcd⟩ := h.cells
  obtain ⟨vl, hlg, hld⟩ := h.log
  exact {
    ins := sb _ _ (fun z => h.ndI y ym z.symm) h.ins
    sz := sb _ _ (ins_ne h.sz hB0.ins (by decide +kernel)) h.sz
    okS := h.okS
    bl := nl h.bl
    xl := nl h.xl
    cells := ⟨vc, nl hc, dpAll_keep kt h.shC.no hcd⟩
    log := ⟨vl, nl hlg, dpAll_keep kt h.shL.no hld⟩
    buf := fun j z es h1 h2 => by
      by_cases ij : i = j
      · subst ij
        rw [hy] at h1
        cases h1
        have hi : i < s.bufs.length := by
          rw [h.lenB.2]
          exact (List.getElem?_eq_some_iff.mp hy).1
        rw [show (MS.mk s.n s.cells (s.bufs.set i (zs.map Prod.snd)) s.boxes s.log).bufs = s.bufs.set i (zs.map Prod.snd) from rfl, List.getElem?_set_self hi] at h2
        cases h2
        refine ⟨l, zs, hB, hE, rfl, fun m => ?_⟩
        simp only [List.mem_cons, List.mem_map] at m
        rcases m with m | m | ⟨u, hu, m⟩
        · rw [m, hc] at hl; cases hl
        · rw [m, hlg] at hl; cases hl
        · obtain ⟨vs, hX⟩ := box_of h hu
          rw [← m, hX.lst] at hl
          cases hl
      · rw [show (MS.mk s.n s.cells (s.bufs.set i (zs.map Prod.snd)) s.boxes s.log).bufs = s.bufs.set i (zs.map Prod.snd) from rfl, List.getElem?_set_ne ij] at h2
        obtain ⟨l2, zs2, h3, h4, h5, h6⟩ := h.buf j z es h1 h2
        exact ⟨l2, zs2, ⟨sb _ _ (bufs_ne h.ndB hy h1 ij) h3.ins, nl h3.lst⟩, h4.kt kt, h5, h6⟩
    box := fun j z ls h1 h2 => by
      obtain ⟨vs, h3, h4⟩ := h.box j z ls h1 h2
      exact ⟨vs, ⟨sb _ _ (ins_ne h3.ins hB0.ins (by decide +kernel)) h3.ins, nl h3.lst⟩, dpAll_keep kt (h.shX ls (mem_of_get h2)).no h4⟩
    lenC := h.lenC
    lenB := ⟨h.lenB.1, (List.length_set).trans h.lenB.2⟩
    lenX := h.lenX
    lenL := h.lenL
    shC := h.shC
    shL := h.shL
    shX := h.shX
    lim := fun es he => by
      rcases List.mem_or_eq_of_mem_set he with he | rfl
      · exact h.lim es he
      · rw [List.length_map]
        exact lm
    ndL := h.ndL
    ndB := h.ndB
    ndI := h.ndI }
theorem Fr.buf {K : PySem.W.Frag} {C : Cl4} {H H' : Hp} {x : MX} {s : MS} {i : Nat} {y : Addr × Addr} {l : Addr} {vs : List V} (h : MemAt K C H x s) (hy : x.bs[i]? = some y) (sb : SameBut y.1 H H') (hB : BufAt C.Cb H' y.1 y.2 l vs) (hl : H l = none) : Fr x H H' := by
  have ym := mem_of_get hy
  refine Fr.mk (fun q o hq f => sb _ _ ((free_own h hq f).bs y ym) hq) (fun q ws hq o => ⟨o.fix, fun z hz D e l2 h2 => ?_⟩)
  by_cases zy : z.1 = y.1
  · rw [zy, hB.ins] at h2
    injection h2 with h2
    injection h2 with _ _ h2
    injection h2 with h2 _
    injection h2 with _ h2
    injection h2 with h2
    intro k
    rw [← h2] at k
    rw [k, hq] at hl
    cases hl
  · obtain ⟨l3, _, h3⟩ := buf_of h hz
    have h4 := sb _ _ zy h3.ins
    rw [h2] at h4
    have h5 := h3.ins
    rw [← h4] at h5
    exact o.ent z hz D e l2 h5
/-! ### a box is another -/
theorem boxes_ne {x : MX} (nd : (x.xs.map fun y => y.2.2).Nodup) {i j : Nat} {y z : Addr × Addr × Addr} (hi : x.xs[i]? = some y) (hj : x.xs[j]? = some z) (n : i ≠ j) : z.2.2 ≠ y.2.2 := fun e => by
  obtain ⟨h1, e1⟩ := List.getElem?_eq_some_iff.mp hi
  obtain ⟨h2, e2⟩ := List.getElem?_eq_some_iff.mp hj
  refine n (nodup_at nd (by rw [List.length_map]; exact h1) (by rw [List.length_map]; exact h2) ?_)
  rw [List.getElem_map, List.getElem_map, e1, e2, e]
theorem MemAt.setBox {K : PySem.W.Frag} {C : Cl4} {H : Hp} {x : MX} {s : MS} {i : Nat} {y : Addr × Addr × Addr} {vs : List V} {ls : List PyData} (h : MemAt K C H x s) (hy : x.xs[i]? = some y) (hd : DpAll K H vs ls) (sh : Shs ls) :
    MemAt K C (upd H y.2.2 (.lst vs)) x ⟨s.n, s.cells, s.bufs, s.boxes.set i ls, s.log⟩ := by
  have ym := mem_of_get hy
  obtain ⟨vs0, hX0⟩ := box_of h ym
  have kt : KT H (upd H y.2.2 (.lst vs)) := KT.lst hX0.lst
  have ni : ∀ {q D e : Addr} {fs : List (Str × V)}, H q = some (.ins D e fs) → upd H y.2.2 (.lst vs) q = some (.ins D e fs) := fun hq => (upd_ne (ne_of hq hX0.lst (fun z => nomatch z))).trans hq
  obtain ⟨vc, hc, hcd⟩ := h.cells
  obtain ⟨vl, hlg, hld⟩ := h.log
  have nd := h.ndL
  simp only [List.nodup_cons, List.mem_cons, not_or] at nd
  have ym2 : y.2.2 ∈ x.xs.map fun y => y.2.2 := List.mem_map.mpr ⟨y, ym, rfl⟩
  have nx : ∀ {q : Addr}, q ∉ (x.xs.map fun y => y.2.2) → q ≠ y.2.2 := fun h z => h (z ▸ ym2)
  exact {
    ins := ni h.ins
    sz := ni h.sz
    okS := h.okS
    bl := (upd_ne (nx nd.1.2.2.2)).trans h.bl
    xl := (upd_ne (nx nd.2.1.2.2)).trans h.xl
    cells := ⟨vc, (upd_ne (nx nd.2.2.1.2)).trans hc, dpAll_keep kt h.shC.no hcd⟩
    log := ⟨vl, (upd_ne (nx nd.2.2.2.1)).trans hlg, dpAll_keep kt h.shL.no hld⟩
    buf := fun j z es h1 h2 => by
      obtain ⟨l2, zs2, h3, h4, h5, h6⟩ := h.buf j z es h1 h2
      have h7 := h6
      simp only [List.mem_cons, not_or] at h7
      exact ⟨l2, zs2, ⟨ni h3.ins, (upd_ne (nx h7.2.2)).trans h3.lst⟩, h4.kt kt, h5, h6⟩
    box := fun j z ls2 h1 h2 => by
      by_cases ij : i = j
      · subst ij
        rw [hy] at h1
        cases h1
        have hi : i < s.boxes.length := by
          rw [h.lenX.2]
          exact (List.getElem?_eq_some_iff.mp hy).1
        rw [show (MS.mk s.n s.cells s.bufs (s.boxes.set i ls) s.log).boxes = s.boxes.set i ls from rfl, List.getElem?_set_self hi] at h2
        cases h2
        obtain ⟨vs2, h3, _⟩ := h.box i y _ hy (List.getElem?_eq_getElem hi)
        exact ⟨vs, ⟨ni h3.ins, upd_same⟩, dpAll_keep kt sh.no hd⟩
      · rw [show (MS.mk s.n s.cells s.bufs (s.boxes.set i ls) s.log).boxes = s.boxes.set i ls from rfl, List.getElem?_set_ne ij] at h2
        obtain ⟨vs2, h3, h4⟩ := h.box j z ls2 h1 h2
        exact ⟨vs2, ⟨ni h3.ins, (upd_ne (boxes_ne nd.2.2.2.2 hy h1 ij)).trans h3.lst⟩, dpAll_keep kt (h.shX ls2 (mem_of_get h2)).no h4⟩
    lenC := h.lenC
    lenB := h.lenB
    lenX := ⟨h.lenX.1, (List.length_set).trans h.lenX.2⟩
    lenL := h.lenL
    shC := h.shC
    shL := h.shL
    shX := fun ls2 h2 => by
      rcases List.mem_or_eq_of_mem_set h2 with h2 | rfl
      · exact h.shX ls2 h2
      · exact sh
    lim := h.lim
    ndL := h.ndL
    ndB := h.ndB
    ndI := h.ndI }
theorem Fr.box {K : PySem.W.Frag} {C : Cl4} {H : Hp} {x : MX} {s : MS} {i : Nat} {y : Addr × Addr × Addr} {vs : List V} (h : MemAt K C H x s) (hy : x.xs[i]? = some y) : Fr x H (upd H y.2.2 (.lst vs)) := by
  have ym := mem_of_get hy
  obtain ⟨vs0, hX0⟩ := box_of h ym
  exact Fr.mk (fun q o hq f => (upd_ne ((free_own h hq f).xs y ym)).trans hq) (fun q ws hq o => o.put h hX0.lst)
/-! ### letters, the state, requests -/
structure Lt where
  t : Int
  ps : List (Int × Int)
def ltD (l : Lt) : PyData := .tuple [.int l.t, .tuple (l.ps.map pD)]
structure Ts where
  n : Nat
  cells : List PyData
  bufs : List (List En)
  boxes : List (List Lt)
  log : List PyData
def Ts.ms (s : Ts) : MS := ⟨s.n, s.cells, s.bufs, s.boxes.map (List.map ltD), s.log⟩
inductive Rq where
  | write (c : Int) (d : PyData)
  | walk (s g : Int)
  | load (s g i : Int)
  | store (s g i : Int) (d : PyData)
  | change (s g i : Int) (o n : PyData)
  | send (to : Nat) (l : Lt)
  | take
def rqD : Rq → PyData
  | .write c d => .tuple [.str "write", .int c, d]
  | .walk s g => .tuple [.str "walk", .int s, .int g]
  | .load s g i => .tuple [.str "load", .int s, .int g, .int i]
  | .store s g i d => .tuple [.str "store", .int s, .int g, .int i, d]
  | .change s g i o n => .tuple [.str "change", .int s, .int g, .int i, o, n]
  | .send to l => .tuple [.str "send", .int (to : Int), ltD l]
  | .take => .tuple [.str "take"]
def wordC (P s g : Int) : Int := 1 + P + 8 * s + g
def frameC (P f i : Int) : Int := 1 + P + 4 * 8 + 2 * f + i
def wdOf : PyData → Wd
  | .tuple [.str z, .int f, .bool w] => if z = "frame" then .frame f w else .non
  | _ => .non
theorem putM_of (s p : Int) (x : Wd) (es : List En) : putM s p (wdOf (wD x)) es = putM s p x es := by
  cases x with
  | frame f w =>
    show putM s p (if ("frame" : Str) = "frame" then .frame f w else .non) es = _
    rw [if_pos rfl]
  | _ => rfl
structure Out where
  cells : List PyData
  bufs : List (List En)
  boxes : List (List Lt)
  val : PyData
def bufAt (s : Ts) (p : Nat) : List En := s.bufs[p]?.getD []
def boxAt (s : Ts) (p : Nat) : List Lt := s.boxes[p]?.getD []
def loadO (P : Int) (s : Ts) (i : Int) : Option Int → Out
  | none => ⟨s.cells, s.bufs, s.boxes, .none⟩
  | some f => ⟨s.cells, s.bufs, s.boxes, .tuple [cellAt s.cells (frameC P f i)]⟩
def storeO (P : Int) (s : Ts) (i : Int) (d : PyData) : Option Int → Out
  | none => ⟨s.cells, s.bufs, s.boxes, .bool false⟩
  | some f => ⟨s.cells.set (frameC P f i).toNat d, s.bufs, s.boxes, .bool true⟩
def changeO (P : Int) (s : Ts) (i : Int) (o n : PyData) : Option Int → Out
  | none => ⟨s.cells, s.bufs, s.boxes, .none⟩
  | some f => if PyData.eqv (cellAt s.cells (frameC P f i)) o = true then ⟨s.cells.set (frameC P f i).toNat n, s.bufs, s.boxes, .tuple [.str "done"]⟩ else ⟨s.cells, s.bufs, s.boxes, .tuple [cellAt s.cells (frameC P f i)]⟩
def takeO (s : Ts) (p : Nat) : List Lt → Out
  | [] => ⟨s.cells, s.bufs, s.boxes, .bool false⟩
  | l :: r => ⟨s.cells.set (1 + p) (.int l.t), s.bufs.set p ((bufAt s p).filter (keep l.ps)), s.boxes.set p r, .bool true⟩
def runR (P : Int) (s : Ts) (p : Nat) : Rq → Out
  | .write c d => ⟨s.cells.set c.toNat d, s.bufs, s.boxes, .none⟩
  | .walk sp g => ⟨s.cells, s.bufs.set p (putM sp g (wdOf (cellAt s.cells (wordC P sp g))) (bufAt s p)), s.boxes, cellAt s.cells (wordC P sp g)⟩
  | .load sp g i => loadO P s i (frameM sp g false (bufAt s p))
  | .store sp g i d => storeO P s i d (frameM sp g true (bufAt s p))
  | .change sp g i o n => changeO P s i o n (frameM sp g true (bufAt s p))
  | .send to l => ⟨s.cells, s.bufs, s.boxes.set to (boxAt s to ++ [l]), .none⟩
  | .take => takeO s p (boxAt s p)
def after (P : Int) (s : Ts) (p : Nat) (r : Rq) : Ts := ⟨s.n, (runR P s p r).cells, (runR P s p r).bufs, (runR P s p r).boxes, s.log⟩
def logT (n : Nat) (p : Nat) (r : Rq) : PyData := logD (n : Nat) (p : Int) (rqD r)
def tnext (P : Int) (s : Ts) (p : Nat) (r : Rq) : Ts := ⟨s.n + 1, (runR P s p r).cells, (runR P s p r).bufs, (runR P s p r).boxes, s.log ++ [logT (s.n + 1) p r]⟩
/-- a value that may be written -/
structure Vok (d : PyData) : Prop where
  no : noL d = true
  sh : Sh 5 d
  val : valueD d = true
  few : FewD d
structure LtOk (l : Lt) : Prop where
  pos : 1 ≤ l.t
  ne : l.ps ≠ []
  few : l.ps.length ≤ 10
  ok : ∀ q ∈ l.ps, (0 ≤ q.1 ∧ q.1 < 4) ∧ (0 ≤ q.2 ∧ q.2 < 8)
def inS (s g : Int) : Prop := (0 ≤ s ∧ s < 4) ∧ (0 ≤ g ∧ g < 8)
def RqOk (x : MX) (s : Ts) : Rq → Prop
  | .write c d => (0 ≤ c ∧ c < cellsN x.p x.f x.b) ∧ Vok d
  | .walk sp g => inS sp g ∧ ∃ w, cellAt s.cells (wordC x.p sp g) = wD w
  | .load sp g i => inS sp g ∧ 0 ≤ i ∧ i < 2
  | .store sp g i d => inS sp g ∧ (0 ≤ i ∧ i < 2) ∧ Vok d
  | .change sp g i o n => inS sp g ∧ (0 ≤ i ∧ i < 2) ∧ Vok o ∧ Vok n
  | .send to l => (to : Int) < x.p ∧ LtOk l
  | .take => True
/-- entries lead to frames that exist, boxes are small -/
structure TOk (x : MX) (s : Ts) : Prop where
  fr : ∀ es ∈ s.bufs, ∀ e ∈ es, 0 ≤ e.f ∧ e.f < x.f
  bx : ∀ ls ∈ s.boxes, ls.length ≤ 1000 ∧ ∀ l ∈ ls, l.ps.length ≤ 10
theorem frame_in {es : List En} {sp g : Int} {w : Bool} {f : Int} (h : frameM sp g w es = some f) : ∃ e ∈ es, e.f = f := by
  unfold frameM at h
  obtain ⟨e, h1, h2⟩ := Option.map_eq_some_iff.mp h
  exact ⟨e, List.mem_of_find?_eq_some h1, h2⟩
theorem noL_pairs (ps : List (Int × Int)) : noL (.tuple (ps.map pD)) = true := noL_tup fun d hd => by
  obtain ⟨q, _, rfl⟩ := List.mem_map.mp hd
  simp only [pD, noL, noLs, Bool.and_self]
theorem sh_pairs (ps : List (Int × Int)) : Sh 2 (.tuple (ps.map pD)) := sh_tup fun d hd => by
  obtain ⟨q, _, rfl⟩ := List.mem_map.mp hd
  exact shP q
theorem noL_lt (l : Lt) : noL (ltD l) = true := by
  have := noL_pairs l.ps
  simp only [ltD, noL, noLs, Bool.and_self, Bool.true_and, Bool.and_true] at this ⊢
  exact this
theorem sh_lt (l : Lt) : Sh 3 (ltD l) := sh_tup (sh_c ((sh_int _).up (by decide)) (sh_c (sh_pairs l.ps) sh_n))
theorem shs_lts (ls : List Lt) : Shs (ls.map ltD) := fun d hd => by
  obtain ⟨l, _, rfl⟩ := List.mem_map.mp hd
  exact ⟨noL_lt l, (sh_lt l).up (by decide)⟩
theorem boxes_at (s : Ts) {p : Nat} (h : p < s.boxes.length) : s.ms.boxes[p]? = some ((boxAt s p).map ltD) := by
  show (s.boxes.map (List.map ltD))[p]? = _
  rw [List.getElem?_map, List.getElem?_eq_getElem h]
  unfold boxAt
  rw [List.getElem?_eq_getElem h]
  rfl
theorem bufs_at (s : Ts) {p : Nat} (h : p < s.bufs.length) : s.bufs[p]? = some (bufAt s p) := by
  unfold bufAt
  rw [List.getElem?_eq_getElem h]
  rfl
theorem map_set {α β : Type} (f : α → β) (l : List α) (i : Nat) (x : α) : (l.set i x).map f = (l.map f).set i (f x) := List.map_set
/-! ### the requests are requests -/
theorem parts_tr : partsOf "write" = some (["cell", "value"] : List Str) ∧ partsOf "send" = some (["processor", "letter"] : List Str) ∧ partsOf "take" = some ([] : List Str) ∧ partsOf "walk" = some (["space", "page"] : List Str) ∧ partsOf "load" = some (["space", "page", "index"] : List Str) ∧
    partsOf "store" = some (["space", "page", "index", "value"] : List Str) ∧ partsOf "change" = some (["space", "page", "index", "value", "value"] : List Str) := ⟨by decide +kernel, by decide +kernel, by decide +kernel, by decide +kernel, by decide +kernel, by decide +kernel, by decide +kernel⟩
theorem part_k (d : PyData) (p f b : Int) : partD d "value" p f b = valueD d ∧ partD d "letter" p f b = letterD d ∧ partD d "cell" p f b = belowD d (cellsN p f b) ∧ partD d "processor" p f b = belowD d p ∧ partD d "space" p f b = belowD d 4 ∧ partD d "page" p f b = belowD d 8 ∧ partD d "index" p f b = belowD d 2 := by
  refine ⟨?_, ?_, ?_, ?_, ?_, ?_, ?_⟩
  · unfold partD; rw [if_pos rfl]
  · unfold partD; rw [if_neg (by decide +kernel), if_pos rfl]
  · unfold partD boundK; rw [if_neg (by decide +kernel), if_neg (by decide +kernel), if_pos rfl]
  · unfold partD boundK; rw [if_neg (by decide +kernel), if_neg (by decide +kernel), if_neg (by decide +kernel), if_pos rfl]
  · unfold partD boundK; rw [if_neg (by decide +kernel), if_neg (by decide +kernel), if_neg (by decide +kernel), if_neg (by decide +kernel), if_pos rfl]
  · unfold partD boundK; rw [if_neg (by decide +kernel), if_neg (by decide +kernel), if_neg (by decide +kernel), if_neg (by decide +kernel), if_neg (by decide +kernel), if_pos rfl]
  · unfold partD boundK; rw [if_neg (by decide +kernel), if_neg (by decide +kernel), if_neg (by decide +kernel), if_neg (by decide +kernel), if_neg (by decide +kernel), if_neg (by decide +kernel)]
theorem below_of {i n : Int} (h : 0 ≤ i ∧ i < n) : belowD (.int i) n = true := by simp only [belowD, decide_eq_true h.1, decide_eq_true h.2, Bool.and_self]
theorem letter_ok {l : Lt} (h : LtOk l) : letterD (ltD l) = true := by
  have e1 : posD (.int l.t) = true := by
    simp only [posD, Bool.not_eq_true', decide_eq_false_iff_not]
    have := h.pos
    omega
  have e2 : manyD (.tuple (l.ps.map pD)) = true := by
    have : 0 < l.ps.length := List.length_pos_iff.mpr h.ne
    simp only [manyD, Bool.and_eq_true, Bool.not_eq_true', decide_eq_false_iff_not, List.length_map, List.all_eq_true, List.mem_map]
    refine ⟨by omega, ?_⟩
    rintro d ⟨q, hq, rfl⟩
    obtain ⟨h1, h2⟩ := h.ok q hq
    show (belowD (.int q.1) 4 && belowD (.int q.2) 8) = true
    rw [below_of h1, below_of h2]
    rfl
  show (posD (.int l.t) && manyD (.tuple (l.ps.map pD))) = true
  rw [e1, e2]
  rfl
theorem req_true {x : MX} {s : Ts} {r : Rq} (h : RqOk x s r) : reqD (rqD r) x.p x.f x.b = true := by
  obtain ⟨p1, p2, p3, p4, p5, p6, p7⟩ := parts_tr
  have k := fun d => part_k d x.p x.f x.b
  have go : ∀ (z : Str) (ds : List PyData) (ks : List Str), partsOf z = some ks → (decide (ds.length = ks.length) && (ds.zip ks).all fun y => partD y.1 y.2 x.p x.f x.b) = true → reqD (.tuple (.str z :: ds)) x.p x.f x.b = true := fun z ds ks e1 e2 => by
    show reqL z ds x.p x.f x.b = true
    unfold reqL
    rw [e1]
    exact e2
  cases r with
  | write c d =>
    refine go _ _ _ p1 ?_
    simp only [List.length_cons, List.length_nil, List.zip_cons_cons, List.zip_nil_left, List.all_cons, List.all_nil, (k _).1, (k _).2.2.1, below_of h.1, h.2.val]
    rfl
  | walk sp g =>
    refine go _ _ _ p4 ?_
    simp only [List.length_cons, List.length_nil, List.zip_cons_cons, List.zip_nil_left, List.all_cons, List.all_nil, (k _).2.2.2.2.1, (k _).2.2.2.2.2.1, below_of h.1.1, below_of h.1.2]
    rfl
  | load sp g i =>
    refine go _ _ _ p5 ?_
    simp only [List.length_cons, List.length_nil, List.zip_cons_cons, List.zip_nil_left, List.all_cons, List.all_nil, (k _).2.2.2.2.1, (k _).2.2.2.2.2.1, (k _).2.2.2.2.2.2, below_of h.1.1, below_of h.1.2, below_of h.2]
    rfl
  | store sp g i d =>
    refine go _ _ _ p6 ?_
    simp only [List.length_cons, List.length_nil, List.zip_cons_cons, List.zip_nil_left, List.all_cons, List.all_nil, (k _).2.2.2.2.1, (k _).2.2.2.2.2.1, (k _).2.2.2.2.2.2, (k _).1, below_of h.1.1, below_of h.1.2, below_of h.2.1, h.2.2.val]
    rfl
  | change sp g i o n =>
    refine go _ _ _ p7 ?_
    simp only [List.length_cons, List.length_nil, List.zip_cons_cons, List.zip_nil_left, List.all_cons, List.all_nil, (k _).2.2.2.2.1, (k _).2.2.2.2.2.1, (k _).2.2.2.2.2.2, (k _).1, below_of h.1.1, below_of h.1.2, below_of h.2.1, h.2.2.1.val, h.2.2.2.val]
    rfl
  | send to l =>
    refine go _ _ _ p2 ?_
    simp only [List.length_cons, List.length_nil, List.zip_cons_cons, List.zip_nil_left, List.all_cons, List.all_nil, (k _).2.2.2.1, (k _).2.1, below_of ⟨Int.natCast_nonneg _, h.1⟩, letter_ok h.2]
    rfl
  | take => exact go _ _ _ p3 rfl
theorem vok_int (i : Int) : Vok (.int i) := ⟨by simp only [noL], (sh_int i).up (by decide), rfl, fun t ps e => by cases e⟩
theorem few_lt {l : Lt} (h : l.ps.length ≤ 10) : FewD (ltD l) := fun t ps e => by
  simp only [ltD, PyData.tuple.injEq, List.cons.injEq, and_true] at e
  rw [← e.2, List.length_map]
  omega
theorem few_int (i : Int) : FewD (.int i) := fun t ps e => by cases e
theorem few_str (z : Str) : FewD (.str z) := fun t ps e => by cases e
theorem rq_shape {x : MX} {s : Ts} {r : Rq} (h : RqOk x s r) : FewR (rqD r) ∧ noL (rqD r) = true ∧ Sh 6 (rqD r) := by
  have st : ∀ z : Str, PyData.canLay0 (.str z) = true → Sh 5 (.str z) := fun z hz => (sh_str z hz).up (by decide)
  have si : ∀ i : Int, Sh 5 (.int i) := fun i => (sh_int i).up (by decide)
  have fw : ∀ ds : List PyData, ds.length ≤ 100 → (∀ d ∈ ds, FewD d) → FewR (.tuple ds) := fun ds h1 h2 => ⟨fun es e => by cases e; exact h1, fun es e => by cases e; exact h2⟩
  have fc : ∀ {d : PyData} {ds : List PyData}, FewD d → (∀ d ∈ ds, FewD d) → ∀ z ∈ d :: ds, FewD z := fun h1 h2 z hz => (List.mem_cons.mp hz).elim (fun e => e ▸ h1) (h2 z)
  have fn : ∀ d ∈ ([] : List PyData), FewD d := fun _ h => absurd h List.not_mem_nil
  cases r with
  | write c d => exact ⟨fw _ (by simp) (fc (few_str _) (fc (few_int _) (fc h.2.few fn))), by simp only [rqD, noL, noLs, h.2.no, Bool.and_self], sh_tup (sh_c (st _ (by decide +kernel)) (sh_c (si _) (sh_c h.2.sh sh_n)))⟩
  | walk sp g => exact ⟨fw _ (by simp) (fc (few_str _) (fc (few_int _) (fc (few_int _) fn))), by simp only [rqD, noL, noLs, Bool.and_self], sh_tup (sh_c (st _ (by decide +kernel)) (sh_c (si _) (sh_c (si _) sh_n)))⟩
  | load sp g i => exact ⟨fw _ (by simp) (fc (few_str _) (fc (few_int _) (fc (few_int _) (fc (few_int _) fn)))), by simp only [rqD, noL, noLs, Bool.and_self], sh_tup (sh_c (st _ (by decide +kernel)) (sh_c (si _) (sh_c (si _) (sh_c (si _) sh_n))))⟩
  | store sp g i d => exact ⟨fw _ (by simp) (fc (few_str _) (fc (few_int _) (fc (few_int _) (fc (few_int _) (fc h.2.2.few fn))))), by simp only [rqD, noL, noLs, h.2.2.no, Bool.and_self], sh_tup (sh_c (st _ (by decide +kernel)) (sh_c (si _) (sh_c (si _) (sh_c (si _) (sh_c h.2.2.sh sh_n)))))⟩
  | change sp g i o n => exact ⟨fw _ (by simp) (fc (few_str _) (fc (few_int _) (fc (few_int _) (fc (few_int _) (fc h.2.2.1.few (fc h.2.2.2.few fn)))))), by simp only [rqD, noL, noLs, h.2.2.1.no, h.2.2.2.no, Bool.and_self], sh_tup (sh_c (st _ (by decide +kernel)) (sh_c (si _) (sh_c (si _) (sh_c (si _) (sh_c h.2.2.1.sh (sh_c h.2.2.2.sh sh_n))))))⟩
  | send to l => exact ⟨fw _ (by simp) (fc (few_str _) (fc (few_int _) (fc (few_lt h.2.few) fn))), by simp only [rqD, noL, noLs, noL_lt, Bool.and_self], sh_tup (sh_c (st _ (by decide +kernel)) (sh_c (si _) (sh_c ((sh_lt l).up (by decide)) sh_n)))⟩
  | take => exact ⟨fw _ (by decide) (fc (few_str _) fn), by simp only [rqD, noL, noLs, Bool.and_self], sh_tup (sh_c (st _ (by decide +kernel)) sh_n)⟩
/-! ### promises -/
def spDrop (K : PySem.W.Frag) (C : Addr) : Sp := fun vs H Q _ => ∃ (b dx l : Addr) (zs : List (Addr × En)) (y : V) (ps : List (Int × Int)), vs = [.ref b, y] ∧ BufAt C H b dx l (zs.map aV) ∧ EnAll H zs ∧ zs.length ≤ 1000 ∧
  (Dp K H y (.list (ps.map pD)) ∨ Dp K H y (.tuple (ps.map pD))) ∧ ∀ H' l', SameBut b H H' → H l' = none → BufAt C H' b dx l' ((zs.filter fun z => keep ps z.2).map aV) → Q .non H'
def spLeadsW (K : PySem.W.Frag) : Sp := fun vs H Q _ => ∃ (y : V) (x : Wd), vs = [y] ∧ Dp K H y (wD x) ∧ Q (.bl x.leads) H
def spPut (K : PySem.W.Frag) (C : Addr) : Sp := fun vs H Q _ => ∃ (b dx l : Addr) (zs : List (Addr × En)) (s p : Int) (y : V) (x : Wd), vs = [.ref b, .int s, .int p, y] ∧ BufAt C H b dx l (zs.map aV) ∧ EnAll H zs ∧ zs.length ≤ 2 ∧
  Dp K H y (wD x) ∧ ∀ H' l' zs', SameBut b H H' → H l' = none → BufAt C H' b dx l' (zs'.map aV) → EnAll H' zs' → zs'.map Prod.snd = putM s p x (zs.map Prod.snd) → Q .non H'
def spFrameFor (C : Addr) : Sp := fun vs H Q _ => ∃ (b dx l : Addr) (zs : List (Addr × En)) (s p : Int) (wr : Bool), vs = [.ref b, .int s, .int p, .bl wr] ∧ BufAt C H b dx l (zs.map aV) ∧ EnAll H zs ∧
  ∀ H', Same H H' → Q (optV (frameM s p wr (zs.map Prod.snd))) H'
def spBoxTake (C : Addr) : Sp := fun vs H Q _ => ∃ (b dx l : Addr) (zs : List V), vs = [.ref b] ∧ BoxAt C H b dx l zs ∧ (zs = [] → Q .non H) ∧ ∀ z r, zs = z :: r → Q z (upd H l (.lst r))
def spBoxSend (K : PySem.W.Frag) (C : Addr) : Sp := fun vs H Q _ => ∃ (b dx l : Addr) (zs : List V) (v : V) (d : PyData), vs = [.ref b, v] ∧ BoxAt C H b dx l zs ∧ zs.length ≤ 1000 ∧ Dp K H v d ∧ FewD d ∧ letterD d = true ∧ ∀ H1, Same H H1 → Q .non (upd H1 l (.lst (zs ++ [v])))
def spReach (K : PySem.W.Frag) (C : Cl4) : Sp := fun vs H Q _ => ∃ (x : MX) (s : Ts) (p : Nat) (sp g i : Int) (w : Bool), vs = [.ref x.m, .int (p : Int), .int sp, .int g, .int i, .bl w] ∧ MemAt K C H x s.ms ∧ TOk x s ∧ (p : Int) < x.p ∧
  ∀ H', Same H H' → Q (optV ((frameM sp g w (bufAt s p)).map fun f => frameC x.p f i)) H'
def spRun (K : PySem.W.Frag) (C : Cl4) (r : Rq → V → List V → Prop) : Sp := fun vs H Q _ => ∃ (x : MX) (s : Ts) (p : Nat) (rq : Rq) (y : V) (us : List V), vs = .ref x.m :: .int (p : Int) :: us ∧ r rq y us ∧ MemAt K C H x s.ms ∧ TOk x s ∧ (p : Int) < x.p ∧ Dp K H y (rqD rq) ∧ RqOk x s rq ∧
  ∀ H' v, Fr x H H' → MemAt K C H' x (after x.p s p rq).ms → Dp K H' v (runR x.p s p rq).val → Q v H'
def spTakeM (K : PySem.W.Frag) (C : Cl4) : Sp := fun vs H Q _ => ∃ (x : MX) (s : Ts) (p : Nat), vs = [.ref x.m, .int (p : Int)] ∧ MemAt K C H x s.ms ∧ TOk x s ∧ (p : Int) < x.p ∧
  ∀ H' v, Fr x H H' → MemAt K C H' x (after x.p s p .take).ms → Dp K H' v (runR x.p s p .take).val → Q v H'
def spWalkM (K : PySem.W.Frag) (C : Cl4) : Sp := fun vs H Q _ => ∃ (x : MX) (s : Ts) (p : Nat) (sp g : Int), vs = [.ref x.m, .int (p : Int), .int sp, .int g] ∧ MemAt K C H x s.ms ∧ (p : Int) < x.p ∧ RqOk x s (.walk sp g) ∧
  ∀ H' v, Fr x H H' → MemAt K C H' x (after x.p s p (.walk sp g)).ms → Dp K H' v (runR x.p s p (.walk sp g)).val → Q v H'
def spResM (K : PySem.W.Frag) (C : Cl4) : Sp := fun vs H Q _ => ∃ (x : MX) (s : Ts) (p : Nat) (t : Addr) (r : Rq), vs = [.ref x.m, .int (p : Int), .ref t] ∧ MemAt K C H x s.ms ∧ TOk x s ∧ (p : Int) < x.p ∧ Dp K H (.ref t) (rqD r) ∧ RqOk x s r ∧
  ∀ H' v, Fr x H H' → MemAt K C H' x (after x.p s p r).ms → Dp K H' v (runR x.p s p r).val → Q v H'
/-- a cell that is told, or none -/
def spLoadM (K : PySem.W.Frag) (C : Cl4) : Sp := fun vs H Q _ => ∃ (x : MX) (s : Ts) (i : Int) (f : Option Int), vs = [.ref x.m, optV (f.map fun f => frameC x.p f i)] ∧ MemAt K C H x s.ms ∧ (∀ g, f = some g → (0 ≤ g ∧ g < x.f) ∧ (0 ≤ i ∧ i < 2)) ∧
  ∀ H' v, Same H H' → Dp K H' v (loadO x.p s i f).val → Q v H'
def spStoreM (K : PySem.W.Frag) (C : Cl4) : Sp := fun vs H Q _ => ∃ (x : MX) (s : Ts) (i : Int) (f : Option Int) (v : V) (d : PyData), vs = [.ref x.m, optV (f.map fun f => frameC x.p f i), v] ∧ MemAt K C H x s.ms ∧ (∀ g, f = some g → (0 ≤ g ∧ g < x.f) ∧ (0 ≤ i ∧ i < 2)) ∧ Dp K H v d ∧ Vok d ∧
  ∀ H' u, Fr x H H' → MemAt K C H' x ⟨s.n, (storeO x.p s i d f).cells, s.bufs, s.ms.boxes, s.log⟩ → Dp K H' u (storeO x.p s i d f).val → Q u H'
def spChangeM (K : PySem.W.Frag) (C : Cl4) : Sp := fun vs H Q _ => ∃ (x : MX) (s : Ts) (i : Int) (f : Option Int) (vo vn : V) (o n : PyData), vs = [.ref x.m, optV (f.map fun f => frameC x.p f i), vo, vn] ∧ MemAt K C H x s.ms ∧ (∀ g, f = some g → (0 ≤ g ∧ g < x.f) ∧ (0 ≤ i ∧ i < 2)) ∧ Dp K H vo o ∧ Vok o ∧ Dp K H vn n ∧ Vok n ∧
  ∀ H' u, Fr x H H' → MemAt K C H' x ⟨s.n, (changeO x.p s i o n f).cells, s.bufs, s.ms.boxes, s.log⟩ → Dp K H' u (changeO x.p s i o n f).val → Q u H'
def spAcc (K : PySem.W.Frag) (C : Cl4) : Sp := fun vs H Q _ => ∃ (x : MX) (s : Ts) (p : Nat) (y : V) (r : Rq), vs = [.ref x.m, .int (p : Int), y] ∧ MemAt K C H x s.ms ∧ TOk x s ∧ (p : Int) < x.p ∧ Dp K H y (rqD r) ∧ RqOk x s r ∧ s.n ≤ 100000 ∧
  ∀ H' v t, Fr x H H' → MemAt K C H' x (tnext x.p s p r).ms → H' t = some (.tup [v, .int ((s.n + 1 : Nat))]) → Dp K H' v (runR x.p s p r).val → Q (.ref t) H'
end Tr
/-! k04's own cells, buffers and boxes: a dict of three lists, beside the memory. -/
namespace Ww
open PySem PySem.Spec PyProof.Rows L2 Dk Ek Nk Wk Lk Fk Mk Pk Ak Sk Tr
structure Wx where
  (w h b x l : Addr)
def wK (P : Int) (h b x : Addr) : List (Key × V) := [(.inr "many", .int P), (.inr "held", .ref h), (.inr "buffers", .ref b), (.inr "boxes", .ref x)]
section
variable {H : Hp} {w h b x : Addr} {P : Int}
theorem sn {s t : Str} (h : ¬ s = t) : ¬ (Sum.inr s : Key) = Sum.inr t := fun e => h (Sum.inr.inj e)
theorem g_many (e : H w = some (.dK (wK P h b x))) : DGet H w (.str "many") (some (.int P)) := by
  have := DGet.k (k := (Sum.inr "many" : Key)) e
  rwa [show valV (wK P h b x) (Sum.inr "many" : Key) = some (.int P) from valV_pos rfl] at this
theorem g_held (e : H w = some (.dK (wK P h b x))) : DGet H w (.str "held") (some (.ref h)) := by
  have := DGet.k (k := (Sum.inr "held" : Key)) e
  rwa [show valV (wK P h b x) (Sum.inr "held" : Key) = some (.ref h) from (valV_neg (sn (by decide +kernel))).trans (valV_pos rfl)] at this
theorem g_bufs (e : H w = some (.dK (wK P h b x))) : DGet H w (.str "buffers") (some (.ref b)) := by
  have := DGet.k (k := (Sum.inr "buffers" : Key)) e
  rwa [show valV (wK P h b x) (Sum.inr "buffers" : Key) = some (.ref b) from (valV_neg (sn (by decide +kernel))).trans ((valV_neg (sn (by decide +kernel))).trans (valV_pos rfl))] at this
theorem g_boxes (e : H w = some (.dK (wK P h b x))) : DGet H w (.str "boxes") (some (.ref x)) := by
  have := DGet.k (k := (Sum.inr "boxes" : Key)) e
  rwa [show valV (wK P h b x) (Sum.inr "boxes" : Key) = some (.ref x) from (valV_neg (sn (by decide +kernel))).trans ((valV_neg (sn (by decide +kernel))).trans ((valV_neg (sn (by decide +kernel))).trans (valV_pos rfl)))] at this
end
structure Apt (y : Wx) (a : Addr) : Prop where
  h : a ≠ y.h
  b : a ≠ y.b
  x : a ≠ y.x
  l : a ≠ y.l
def Row (H : Hp) (x : MX) (y : Wx) (a : Addr) (es : List En) : Prop := ∃ zs : List (Addr × En), H a = some (.lst (zs.map aV)) ∧ EnAll H zs ∧ zs.map Prod.snd = es ∧ Off H x a ∧ Apt y a
def Rox (K : PySem.W.Frag) (H : Hp) (x : MX) (y : Wx) (a : Addr) (ls : List Lt) : Prop := ∃ vs : List V, H a = some (.lst vs) ∧ DpAll K H vs (ls.map ltD) ∧ Off H x a ∧ Apt y a
structure WAt (K : PySem.W.Frag) (H : Hp) (x : MX) (y : Wx) (s : Ts) : Prop where
  dict : H y.w = some (.dK (wK x.p y.h y.b y.x))
  oh : Off H x y.h
  ob : Off H x y.b
  ox : Off H x y.x
  hb : y.h ≠ y.b
  hx : y.h ≠ y.x
  bx : y.b ≠ y.x
  lh : y.l ≠ y.h
  lb : y.l ≠ y.b
  lx : y.l ≠ y.x
  ol : Off H x y.l
  log : ∃ vs, H y.l = some (.lst vs)
  held : ∃ vs, H y.h = some (.lst vs) ∧ DpAll K H vs s.cells
  bufs : ∃ as : List Addr, H y.b = some (.lst (as.map V.ref)) ∧ as.length = s.bufs.length ∧ ∀ (i : Nat) (a : Addr) (es : List En), as[i]? = some a → s.bufs[i]? = some es → Row H x y a es
  boxes : ∃ as : List Addr, H y.x = some (.lst (as.map V.ref)) ∧ as.length = s.boxes.length ∧ ∀ (i : Nat) (a : Addr) (ls : List Lt), as[i]? = some a → s.boxes[i]? = some ls → Rox K H x y a ls
theorem noLs_lts (ls : List Lt) : noLs (ls.map ltD) = true := noLs_of fun d hd => (shs_lts ls d hd).1
/-- how lists of one's own go over to another heap -/
def Lf (x : MX) (y : Wx) (H H' : Hp) : Prop := ∀ q vs, H q = some (.lst vs) → Off H x q → Apt y q → H' q = some (.lst vs) ∧ Off H' x q
theorem Row.mv {H H' : Hp} {x : MX} {y : Wx} {a : Addr} {es : List En} (r : Row H x y a es) (f : Lf x y H H') (kt : KT H H') : Row H' x y a es := by
  obtain ⟨zs, h1, h2, h3, h4, h5⟩ := r
  exact ⟨zs, (f a _ h1 h4 h5).1, h2.kt kt, h3, (f a _ h1 h4 h5).2, h5⟩
theorem Rox.mv {K : PySem.W.Frag} {H H' : Hp} {x : MX} {y : Wx} {a : Addr} {ls : List Lt} (r : Rox K H x y a ls) (f : Lf x y H H') (kt : KT H H') : Rox K H' x y a ls := by
  obtain ⟨vs, h1, h2, h4, h5⟩ := r
  exact ⟨vs, (f a _ h1 h4 h5).1, dpAll_keep kt (noLs_lts ls) h2, (f a _ h1 h4 h5).2, h5⟩
theorem WAt.fr {K : PySem.W.Frag} {H H' : Hp} {x : MX} {y : Wx} {s : Ts} (h : WAt K H x y s) (f : Fr x H H') (nc : noLs s.cells = true) : WAt K H' x y s := by
  have lf : Lf x y H H' := fun q vs h1 o _ => f.lst h1 o
  obtain ⟨vs, h1, h2⟩ := h.held
  obtain ⟨as, b1, b2, b3⟩ := h.bufs
  obtain ⟨xs, x1, x2, x3⟩ := h.boxes
  obtain ⟨ls, l1⟩ := h.log
  exact ⟨(f _ _ h.dict True.intro).1, (f.lst h1 h.oh).2, (f.lst b1 h.ob).2, (f.lst x1 h.ox).2, h.hb, h.hx, h.bx, h.lh, h.lb, h.lx, (f.lst l1 h.ol).2, ⟨ls, (f.lst l1 h.ol).1⟩, ⟨vs, (f.lst h1 h.oh).1, dpAll_keep f.kt nc h2⟩,
    ⟨as, (f.lst b1 h.ob).1, b2, fun i a es e1 e2 => (b3 i a es e1 e2).mv lf f.kt⟩, ⟨xs, (f.lst x1 h.ox).1, x2, fun i a ls e1 e2 => (x3 i a ls e1 e2).mv lf f.kt⟩⟩
theorem Lf.put {K : PySem.W.Frag} {C : Cl4} {H : Hp} {x : MX} {s : MS} {y : Wx} {q : Addr} {vs : List V} {u : HO} (hM : MemAt K C H x s) (hq : H q = some (.lst vs)) (n : ∀ a, Apt y a → a ≠ q) : Lf x y H (upd H q u) := fun a ws h1 o ap => ⟨(upd_ne (n a ap)).trans h1, o.put hM hq⟩
section
variable {K : PySem.W.Frag} {C : Cl4} {H : Hp} {x : MX} {y : Wx} {s : Ts}
theorem WAt.setH {s0 : MS} (h : WAt K H x y s) (hM : MemAt K C H x s0) {vs : List V} (hv : H y.h = some (.lst vs)) (hd : DpAll K H vs s.cells) {v : V} {d : PyData} (dv : Dp K H v d) (nd : noL d = true) (j : Nat) (ec : s0.cells = s.cells := by rfl) :
    WAt K (upd H y.h (.lst (vs.set j v))) x y ⟨s.n, s.cells.set j d, s.bufs, s.boxes, s.log⟩ := by
  have kt : KT H (upd H y.h (.lst (vs.set j v))) := KT.lst hv
  have lf : Lf x y H (upd H y.h (.lst (vs.set j v))) := Lf.put hM hv fun a ap => ap.h
  obtain ⟨as, b1, b2, b3⟩ := h.bufs
  obtain ⟨xs, x1, x2, x3⟩ := h.boxes
  exact ⟨(upd_ne (ne_of h.dict hv (fun z => nomatch z))).trans h.dict, h.oh.put hM hv, h.ob.put hM hv, h.ox.put hM hv, h.hb, h.hx, h.bx, h.lh, h.lb, h.lx, h.ol.put hM hv, h.log.imp fun _ l1 => (upd_ne h.lh).trans l1, ⟨_, upd_same, dpAll_set (dp_keep kt nd dv) j (dpAll_keep kt (ec ▸ hM.shC.no) hd)⟩,
    ⟨as, (upd_ne (Ne.symm h.hb)).trans b1, b2, fun i a es e1 e2 => (b3 i a es e1 e2).mv lf kt⟩, ⟨xs, (upd_ne (Ne.symm h.hx)).trans x1, x2, fun i a ls e1 e2 => (x3 i a ls e1 e2).mv lf kt⟩⟩
theorem WAt.setB {s0 : MS} (h : WAt K H x y s) (hM : MemAt K C H x s0) {as : List Addr} (hb : H y.b = some (.lst (as.map V.ref))) (hl : as.length = s.bufs.length) (hr : ∀ (i : Nat) (a : Addr) (es : List En), as[i]? = some a → s.bufs[i]? = some es → Row H x y a es)
    {r : Addr} {es : List En} (row : Row H x y r es) (j : Nat) (ec : s0.cells = s.cells := by rfl) : WAt K (upd H y.b (.lst ((as.map V.ref).set j (.ref r)))) x y ⟨s.n, s.cells, s.bufs.set j es, s.boxes, s.log⟩ := by
  have kt : KT H (upd H y.b (.lst ((as.map V.ref).set j (.ref r)))) := KT.lst hb
  have lf : Lf x y H (upd H y.b (.lst ((as.map V.ref).set j (.ref r)))) := Lf.put hM hb fun a ap => ap.b
  obtain ⟨vs, h1, h2⟩ := h.held
  obtain ⟨xs, x1, x2, x3⟩ := h.boxes
  refine ⟨(upd_ne (ne_of h.dict hb (fun z => nomatch z))).trans h.dict, h.oh.put hM hb, h.ob.put hM hb, h.ox.put hM hb, h.hb, h.hx, h.bx, h.lh, h.lb, h.lx, h.ol.put hM hb, h.log.imp fun _ l1 => (upd_ne h.lb).trans l1, ⟨vs, (upd_ne h.hb).trans h1, dpAll_keep kt (ec ▸ hM.shC.no) h2⟩,
    ⟨as.set j r, by rw [upd_same, List.map_set], by rw [List.length_set, hl]; exact List.length_set.symm, fun i a fs e1 e2 => ?_⟩, ⟨xs, (upd_ne (Ne.symm h.bx)).trans x1, x2, fun i a ls e1 e2 => (x3 i a ls e1 e2).mv lf kt⟩⟩
  have e2 : (s.bufs.set j es)[i]? = some fs := e2
  by_cases ij : j = i
  · subst ij
    have h1 := (List.getElem?_eq_some_iff.mp e1).1
    rw [List.length_set] at h1
    rw [List.getElem?_set_self h1] at e1
    rw [List.getElem?_set_self (by omega)] at e2
    cases e1
    cases e2
    exact row.mv lf kt
  · rw [List.getElem?_set_ne ij] at e1 e2
    exact (hr i a fs e1 e2).mv lf kt
theorem WAt.setX {s0 : MS} (h : WAt K H x y s) (hM : MemAt K C H x s0) {as : List Addr} (hb : H y.x = some (.lst (as.map V.ref))) (hl : as.length = s.boxes.length) (hr : ∀ (i : Nat) (a : Addr) (ls : List Lt), as[i]? = some a → s.boxes[i]? = some ls → Rox K H x y a ls)
    {r : Addr} {ls : List Lt} (row : Rox K H x y r ls) (j : Nat) (ec : s0.cells = s.cells := by rfl) : WAt K (upd H y.x (.lst ((as.map V.ref).set j (.ref r)))) x y ⟨s.n, s.cells, s.bufs, s.boxes.set j ls, s.log⟩ := by
  have kt : KT H (upd H y.x (.lst ((as.map V.ref).set j (.ref r)))) := KT.lst hb
  have lf : Lf x y H (upd H y.x (.lst ((as.map V.ref).set j (.ref r)))) := Lf.put hM hb fun a ap => ap.x
  obtain ⟨vs, h1, h2⟩ := h.held
  obtain ⟨xs, x1, x2, x3⟩ := h.bufs
  refine ⟨(upd_ne (ne_of h.dict hb (fun z => nomatch z))).trans h.dict, h.oh.put hM hb, h.ob.put hM hb, h.ox.put hM hb, h.hb, h.hx, h.bx, h.lh, h.lb, h.lx, h.ol.put hM hb, h.log.imp fun _ l1 => (upd_ne h.lx).trans l1, ⟨vs, (upd_ne h.hx).trans h1, dpAll_keep kt (ec ▸ hM.shC.no) h2⟩,
    ⟨xs, (upd_ne h.bx).trans x1, x2, fun i a es e1 e2 => (x3 i a es e1 e2).mv lf kt⟩, ⟨as.set j r, by rw [upd_same, List.map_set], by rw [List.length_set, hl]; exact List.length_set.symm, fun i a fs e1 e2 => ?_⟩⟩
  have e2 : (s.boxes.set j ls)[i]? = some fs := e2
  by_cases ij : j = i
  · subst ij
    have h1 := (List.getElem?_eq_some_iff.mp e1).1
    rw [List.length_set] at h1
    rw [List.getElem?_set_self h1] at e1
    rw [List.getElem?_set_self (by omega)] at e2
    cases e1
    cases e2
    exact row.mv lf kt
  · rw [List.getElem?_set_ne ij] at e1 e2
    exact (hr i a fs e1 e2).mv lf kt
theorem WAt.setL {s0 : MS} (h : WAt K H x y s) (hM : MemAt K C H x s0) {vs ws : List V} (hv : H y.l = some (.lst vs)) (nc : noLs s.cells = true) : WAt K (upd H y.l (.lst ws)) x y s := by
  have kt : KT H (upd H y.l (.lst ws)) := KT.lst hv
  have lf : Lf x y H (upd H y.l (.lst ws)) := Lf.put hM hv fun a ap => ap.l
  obtain ⟨vs1, h1, h2⟩ := h.held
  obtain ⟨as, b1, b2, b3⟩ := h.bufs
  obtain ⟨xs, x1, x2, x3⟩ := h.boxes
  exact ⟨(upd_ne (ne_of h.dict hv (fun z => nomatch z))).trans h.dict, h.oh.put hM hv, h.ob.put hM hv, h.ox.put hM hv, h.hb, h.hx, h.bx, h.lh, h.lb, h.lx, h.ol.put hM hv, ⟨_, upd_same⟩, ⟨vs1, (upd_ne (Ne.symm h.lh)).trans h1, dpAll_keep kt nc h2⟩,
    ⟨as, (upd_ne (Ne.symm h.lb)).trans b1, b2, fun i a es e1 e2 => (b3 i a es e1 e2).mv lf kt⟩, ⟨xs, (upd_ne (Ne.symm h.lx)).trans x1, x2, fun i a ls e1 e2 => (x3 i a ls e1 e2).mv lf kt⟩⟩
theorem WAt.row (h : WAt K H x y s) {p : Nat} (hp : p < s.bufs.length) : ∃ (as : List Addr) (a : Addr), H y.b = some (.lst (as.map V.ref)) ∧ as.length = s.bufs.length ∧ (∀ (i : Nat) (a : Addr) (es : List En), as[i]? = some a → s.bufs[i]? = some es → Row H x y a es) ∧ (as.map V.ref)[p]? = some (.ref a) ∧ Row H x y a (bufAt s p) := by
  obtain ⟨as, b1, b2, b3⟩ := h.bufs
  have h1 : p < as.length := by omega
  exact ⟨as, as[p], b1, b2, b3, by rw [List.getElem?_map, List.getElem?_eq_getElem h1]; rfl, b3 p _ _ (List.getElem?_eq_getElem h1) (bufs_at s hp)⟩
theorem box_at (s : Ts) {p : Nat} (h : p < s.boxes.length) : s.boxes[p]? = some (boxAt s p) := by
  unfold boxAt
  rw [List.getElem?_eq_getElem h]
  rfl
theorem WAt.rox (h : WAt K H x y s) {p : Nat} (hp : p < s.boxes.length) : ∃ (as : List Addr) (a : Addr), H y.x = some (.lst (as.map V.ref)) ∧ as.length = s.boxes.length ∧ (∀ (i : Nat) (a : Addr) (ls : List Lt), as[i]? = some a → s.boxes[i]? = some ls → Rox K H x y a ls) ∧ (as.map V.ref)[p]? = some (.ref a) ∧ Rox K H x y a (boxAt s p) := by
  obtain ⟨as, b1, b2, b3⟩ := h.boxes
  have h1 : p < as.length := by omega
  exact ⟨as, as[p], b1, b2, b3, by rw [List.getElem?_map, List.getElem?_eq_getElem h1]; rfl, b3 p _ _ (List.getElem?_eq_getElem h1) (box_at s hp)⟩
/-- a new list -/
theorem fresh_apt (h : WAt K H x y s) {a : Addr} (n : H a = none) : Apt y a := by
  obtain ⟨vs, h1, _⟩ := h.held
  obtain ⟨as, b1, _⟩ := h.bufs
  obtain ⟨xs, x1, _⟩ := h.boxes
  obtain ⟨ls, l1⟩ := h.log
  exact ⟨(ne_of_none h1 n).symm, (ne_of_none b1 n).symm, (ne_of_none x1 n).symm, (ne_of_none l1 n).symm⟩
end
def useR : Rq → Prop
  | .load _ _ _ => True
  | .store _ _ _ _ => True
  | .change _ _ _ _ _ => True
  | _ => False
def spLDue (K : PySem.W.Frag) (C : Cl4) (A : Rq → Prop) : Sp := fun vs H Q _ => ∃ (x : MX) (y : Wx) (s : Ts) (p : Nat) (t : Addr) (r : Rq), vs = [.ref y.w, .int (p : Int), .ref t] ∧ MemAt K C H x s.ms ∧ WAt K H x y s ∧ TOk x s ∧ (p : Int) < x.p ∧ Dp K H (.ref t) (rqD r) ∧ RqOk x s r ∧ A r ∧
  ∀ H' v, Keep [y.h, y.b, y.x] H H' → KT H H' → MemAt K C H' x s.ms → WAt K H' x y (after x.p s p r) → Dp K H' v (runR x.p s p r).val → Q v H'
def spLReq (K : PySem.W.Frag) : Sp := fun vs H Q _ => ∃ (x : MX) (y : Wx) (n pk o : Int), vs = [.ref y.w, .int n, .int pk, .int o] ∧ H y.w = some (.dK (wK x.p y.h y.b y.x)) ∧ (1 ≤ x.p ∧ x.p ≤ 3) ∧ (x.f = 4 ∧ x.b = 3) ∧ 0 ≤ n ∧ 0 ≤ pk ∧ 0 ≤ o ∧
  ∀ H' t r, Same H H' → Dp K H' (.ref t) (rqD r) → (∀ s : Ts, (∀ sp g, inS sp g → ∃ w, cellAt s.cells (wordC x.p sp g) = wD w) → RqOk x s r) →
    (∀ c d, r = .write c d → (∃ sp g, inS sp g ∧ c = wordC x.p sp g ∧ ∃ w, d = wD w ∧ ∀ f wr, w = .frame f wr → 0 ≤ f ∧ f < 4) ∨ (33 + x.p ≤ c)) → Q (.ref t) H'
def spLooks (K : PySem.W.Frag) (C : Cl4) : Sp := fun vs H Q _ => ∃ (x : MX) (y : Wx) (s : Ts), vs = [.ref x.m, .ref y.w] ∧ MemAt K C H x s.ms ∧ WAt K H x y s ∧ ∀ H', Same H H' → Q (.bl true) H'
theorem Off.kp {K : PySem.W.Frag} {C : Cl4} {H H' : Hp} {x : MX} {s : MS} {q : Addr} {L : List Addr} (o : Off H x q) (h : MemAt K C H x s) (e : Keep L H H') (n : ∀ a ∈ L, ∃ vs, H a = some (.lst vs)) : Off H' x q := o.mv h fun y hy u hu => e _ _ (fun m => by
  obtain ⟨vs, h1⟩ := n _ m
  obtain ⟨l2, _, h2⟩ := buf_of h hy
  exact ne_of h2.ins h1 (fun z => nomatch z) rfl) hu
theorem WAt.eq {K : PySem.W.Frag} {H : Hp} {x : MX} {y : Wx} {s t : Ts} (h : WAt K H x y s) (e1 : s.cells = t.cells) (e2 : s.bufs = t.bufs) (e3 : s.boxes = t.boxes) : WAt K H x y t :=
  ⟨h.dict, h.oh, h.ob, h.ox, h.hb, h.hx, h.bx, h.lh, h.lb, h.lx, h.ol, h.log, e1 ▸ h.held, e2 ▸ h.bufs, e3 ▸ h.boxes⟩
end Ww
namespace K04
open PySem L2 Dk Ek Nk Wk Lk Fk Mk Mc Pk Ak Sk Tr Ww
def top (i : Nat) : Stmt := PySem.Challenge.pw_frametally_k04_whole_translations.main.body.getD i (.Pass ⟨0, 0, 0, 0⟩)
abbrev s_leads_to_frame : Stmt := top 3
abbrev s_Buffer_init : Stmt := inClass (top 4) 0
abbrev s_Buffer_put : Stmt := inClass (top 4) 1
abbrev s_Buffer_frame_for : Stmt := inClass (top 4) 2
abbrev s_Buffer_drop : Stmt := inClass (top 4) 3
abbrev s_Buffer_entries : Stmt := inClass (top 4) 4
abbrev s_PageError_init : Stmt := inClass (top 6) 0
abbrev s_is_whole : Stmt := top 11
abbrev s_is_number_below : Stmt := top 12
abbrev s_is_tuple_of : Stmt := top 13
abbrev s_is_pair : Stmt := top 14
abbrev s_is_letter : Stmt := top 15
abbrev s_Box_init : Stmt := inClass (top 16) 0
abbrev s_Box_send : Stmt := inClass (top 16) 1
abbrev s_Box_take : Stmt := inClass (top 16) 2
abbrev s_Box_letters : Stmt := inClass (top 16) 3
abbrev s_is_between : Stmt := top 22
abbrev s_is_value : Stmt := top 23
abbrev s_Sizes_init : Stmt := inClass (top 24) 0
abbrev s_Sizes_acknowledge : Stmt := inClass (top 24) 2
abbrev s_Sizes_word : Stmt := inClass (top 24) 3
abbrev s_Sizes_frame_cell : Stmt := inClass (top 24) 4
abbrev s_Sizes_cells : Stmt := inClass (top 24) 7
abbrev s_first_values : Stmt := top 25
abbrev s_bound_of : Stmt := top 26
abbrev s_is_part : Stmt := top 27
abbrev s_is_request : Stmt := top 28
abbrev s_Memory_init : Stmt := inClass (top 29) 0
abbrev s_Memory_access : Stmt := inClass (top 29) 1
abbrev s_Memory_peek : Stmt := inClass (top 29) 2
abbrev s_Memory_log : Stmt := inClass (top 29) 3
abbrev s_Memory__result : Stmt := inClass (top 29) 4
abbrev s_Memory__swap : Stmt := inClass (top 29) 5
abbrev s_Memory__take : Stmt := inClass (top 29) 6
abbrev s_Memory__walk : Stmt := inClass (top 29) 7
abbrev s_Memory__reached : Stmt := inClass (top 29) 8
abbrev s_Memory__load : Stmt := inClass (top 29) 9
abbrev s_Memory__store : Stmt := inClass (top 29) 10
abbrev s_Memory__change : Stmt := inClass (top 29) 11
abbrev s__law_tape : Stmt := top 31
abbrev s__law_at : Stmt := top 32
abbrev s__law_put : Stmt := top 33
abbrev s__law_frame : Stmt := top 34
abbrev s__law_use : Stmt := top 35
abbrev s__law_due : Stmt := top 36
abbrev s__law_request : Stmt := top 37
abbrev s__law_same : Stmt := top 38
abbrev s__law_looks : Stmt := top 39
abbrev s_law : Stmt := top 40
theorem sc_leads_to_frame : FnScope ["word"] ["word"] (defScope s_leads_to_frame) := ⟨rfl, rfl, rfl, by decide +kernel, rfl, by decide +kernel, by decide +kernel⟩
theorem sc_Buffer_init : FnScope ["self"] ["self"] (defScope s_Buffer_init) := ⟨rfl, rfl, rfl, by decide +kernel, rfl, by decide +kernel, by decide +kernel⟩
theorem sc_Buffer_put : FnScope ["self", "space", "page", "word"] ["self", "space", "page", "word"] (defScope s_Buffer_put) := ⟨rfl, rfl, rfl, by decide +kernel, rfl, by decide +kernel, by decide +kernel⟩
theorem sc_Buffer_frame_for : FnScope ["self", "space", "page", "writing", "entry_space", "entry_page", "frame", "writable"] ["self", "space", "page", "writing"] (defScope s_Buffer_frame_for) := ⟨rfl, rfl, rfl, by decide +kernel, rfl, by decide +kernel, by decide +kernel⟩
theorem sc_Buffer_drop : FnScope ["self", "pairs", "entry"] ["self", "pairs"] (defScope s_Buffer_drop) := ⟨rfl, rfl, rfl, by decide +kernel, rfl, by decide +kernel, by decide +kernel⟩
theorem sc_Buffer_entries : FnScope ["self"] ["self"] (defScope s_Buffer_entries) := ⟨rfl, rfl, rfl, by decide +kernel, rfl, by decide +kernel, by decide +kernel⟩
theorem sc_PageError_init : FnScope ["self"] ["self"] (defScope s_PageError_init) := ⟨rfl, rfl, rfl, by decide +kernel, rfl, by decide +kernel, by decide +kernel⟩
theorem sc_is_whole : FnScope ["value"] ["value"] (defScope s_is_whole) := ⟨rfl, rfl, rfl, by decide +kernel, rfl, by decide +kernel, by decide +kernel⟩
theorem sc_is_number_below : FnScope ["value", "many"] ["value", "many"] (defScope s_is_number_below) := ⟨rfl, rfl, rfl, by decide +kernel, rfl, by decide +kernel, by decide +kernel⟩
theorem sc_is_tuple_of : FnScope ["value", "many"] ["value", "many"] (defScope s_is_tuple_of) := ⟨rfl, rfl, rfl, by decide +kernel, rfl, by decide +kernel, by decide +kernel⟩
theorem sc_is_pair : FnScope ["value", "space", "page"] ["value"] (defScope s_is_pair) := ⟨rfl, rfl, rfl, by decide +kernel, rfl, by decide +kernel, by decide +kernel⟩
theorem sc_is_letter : FnScope ["value", "ticket", "pairs", "pair"] ["value"] (defScope s_is_letter) := ⟨rfl, rfl, rfl, by decide +kernel, rfl, by decide +kernel, by decide +kernel⟩
theorem sc_Box_init : FnScope ["self"] ["self"] (defScope s_Box_init) := ⟨rfl, rfl, rfl, by decide +kernel, rfl, by decide +kernel, by decide +kernel⟩
theorem sc_Box_send : FnScope ["self", "letter"] ["self", "letter"] (defScope s_Box_send) := ⟨rfl, rfl, rfl, by decide +kernel, rfl, by decide +kernel, by decide +kernel⟩
theorem sc_Box_take : FnScope ["self"] ["self"] (defScope s_Box_take) := ⟨rfl, rfl, rfl, by decide +kernel, rfl, by decide +kernel, by decide +kernel⟩
theorem sc_Box_letters : FnScope ["self"] ["self"] (defScope s_Box_letters) := ⟨rfl, rfl, rfl, by decide +kernel, rfl, by decide +kernel, by decide +kernel⟩
theorem sc_is_between : FnScope ["value", "least", "most"] ["value", "least", "most"] (defScope s_is_between) := ⟨rfl, rfl, rfl, by decide +kernel, rfl, by decide +kernel, by decide +kernel⟩
theorem sc_is_value : FnScope ["value"] ["value"] (defScope s_is_value) := ⟨rfl, rfl, rfl, by decide +kernel, rfl, by decide +kernel, by decide +kernel⟩
theorem sc_Sizes_init : FnScope ["self", "processors", "frames", "blocks"] ["self", "processors", "frames", "blocks"] (defScope s_Sizes_init) := ⟨rfl, rfl, rfl, by decide +kernel, rfl, by decide +kernel, by decide +kernel⟩
theorem sc_Sizes_acknowledge : FnScope ["self", "processor"] ["self", "processor"] (defScope s_Sizes_acknowledge) := ⟨rfl, rfl, rfl, by decide +kernel, rfl, by decide +kernel, by decide +kernel⟩
theorem sc_Sizes_word : FnScope ["self", "space", "page"] ["self", "space", "page"] (defScope s_Sizes_word) := ⟨rfl, rfl, rfl, by decide +kernel, rfl, by decide +kernel, by decide +kernel⟩
theorem sc_Sizes_frame_cell : FnScope ["self", "frame", "index"] ["self", "frame", "index"] (defScope s_Sizes_frame_cell) := ⟨rfl, rfl, rfl, by decide +kernel, rfl, by decide +kernel, by decide +kernel⟩
theorem sc_Sizes_cells : FnScope ["self"] ["self"] (defScope s_Sizes_cells) := ⟨rfl, rfl, rfl, by decide +kernel, rfl, by decide +kernel, by decide +kernel⟩
theorem sc_first_values : FnScope ["sizes", "lock_and_acknowledges", "words", "frames", "blocks"] ["sizes"] (defScope s_first_values) := ⟨rfl, rfl, rfl, by decide +kernel, rfl, by decide +kernel, by decide +kernel⟩
theorem sc_bound_of : FnScope ["kind", "sizes"] ["kind", "sizes"] (defScope s_bound_of) := ⟨rfl, rfl, rfl, by decide +kernel, rfl, by decide +kernel, by decide +kernel⟩
theorem sc_is_part : FnScope ["part", "kind", "sizes"] ["part", "kind", "sizes"] (defScope s_is_part) := ⟨rfl, rfl, rfl, by decide +kernel, rfl, by decide +kernel, by decide +kernel⟩
theorem sc_is_request : FnScope ["value", "sizes", "kinds", "part", "kind"] ["value", "sizes"] (defScope s_is_request) := ⟨rfl, rfl, rfl, by decide +kernel, rfl, by decide +kernel, by decide +kernel⟩
theorem sc_Memory_init : FnScope ["self", "sizes", "_"] ["self", "sizes"] (defScope s_Memory_init) := ⟨rfl, rfl, rfl, by decide +kernel, rfl, by decide +kernel, by decide +kernel⟩
theorem sc_Memory_access : FnScope ["self", "processor", "request"] ["self", "processor", "request"] (defScope s_Memory_access) := ⟨rfl, rfl, rfl, by decide +kernel, rfl, by decide +kernel, by decide +kernel⟩
theorem sc_Memory_peek : FnScope ["self", "cell"] ["self", "cell"] (defScope s_Memory_peek) := ⟨rfl, rfl, rfl, by decide +kernel, rfl, by decide +kernel, by decide +kernel⟩
theorem sc_Memory_log : FnScope ["self"] ["self"] (defScope s_Memory_log) := ⟨rfl, rfl, rfl, by decide +kernel, rfl, by decide +kernel, by decide +kernel⟩
theorem sc_Memory__result : FnScope ["self", "processor", "request", "cell", "value", "old", "new", "to", "letter", "space", "page", "index"] ["self", "processor", "request"] (defScope s_Memory__result) := ⟨rfl, rfl, rfl, by decide +kernel, rfl, by decide +kernel, by decide +kernel⟩
theorem sc_Memory__swap : FnScope ["self", "cell", "old", "new"] ["self", "cell", "old", "new"] (defScope s_Memory__swap) := ⟨rfl, rfl, rfl, by decide +kernel, rfl, by decide +kernel, by decide +kernel⟩
theorem sc_Memory__take : FnScope ["self", "processor", "letter", "ticket", "pairs"] ["self", "processor"] (defScope s_Memory__take) := ⟨rfl, rfl, rfl, by decide +kernel, rfl, by decide +kernel, by decide +kernel⟩
theorem sc_Memory__walk : FnScope ["self", "processor", "space", "page", "word"] ["self", "processor", "space", "page"] (defScope s_Memory__walk) := ⟨rfl, rfl, rfl, by decide +kernel, rfl, by decide +kernel, by decide +kernel⟩
theorem sc_Memory__reached : FnScope ["self", "processor", "space", "page", "index", "writing", "frame"] ["self", "processor", "space", "page", "index", "writing"] (defScope s_Memory__reached) := ⟨rfl, rfl, rfl, by decide +kernel, rfl, by decide +kernel, by decide +kernel⟩
theorem sc_Memory__load : FnScope ["self", "cell"] ["self", "cell"] (defScope s_Memory__load) := ⟨rfl, rfl, rfl, by decide +kernel, rfl, by decide +kernel, by decide +kernel⟩
theorem sc_Memory__store : FnScope ["self", "cell", "value"] ["self", "cell", "value"] (defScope s_Memory__store) := ⟨rfl, rfl, rfl, by decide +kernel, rfl, by decide +kernel, by decide +kernel⟩
theorem sc_Memory__change : FnScope ["self", "cell", "old", "new"] ["self", "cell", "old", "new"] (defScope s_Memory__change) := ⟨rfl, rfl, rfl, by decide +kernel, rfl, by decide +kernel, by decide +kernel⟩
theorem sc__law_tape : FnScope ["script", "tape", "k", "value", "step"] ["script"] (defScope s__law_tape) := ⟨rfl, rfl, rfl, by decide +kernel, rfl, by decide +kernel, by decide +kernel⟩
theorem sc__law_at : FnScope ["tape", "k"] ["tape", "k"] (defScope s__law_at) := ⟨rfl, rfl, rfl, by decide +kernel, rfl, by decide +kernel, by decide +kernel⟩
theorem sc__law_put : FnScope ["rows", "space", "page", "word", "row"] ["rows", "space", "page", "word"] (defScope s__law_put) := ⟨rfl, rfl, rfl, by decide +kernel, rfl, by decide +kernel, by decide +kernel⟩
theorem sc__law_frame : FnScope ["rows", "space", "page", "writing", "row"] ["rows", "space", "page", "writing"] (defScope s__law_frame) := ⟨rfl, rfl, rfl, by decide +kernel, rfl, by decide +kernel, by decide +kernel⟩
theorem sc__law_use : FnScope ["w", "p", "request", "kind", "frame", "cell"] ["w", "p", "request"] (defScope s__law_use) := ⟨rfl, rfl, rfl, by decide +kernel, rfl, by decide +kernel, by decide +kernel⟩
theorem sc__law_due : FnScope ["w", "p", "request", "kind", "word", "ticket", "pairs", "row"] ["w", "p", "request"] (defScope s__law_due) := ⟨rfl, rfl, rfl, by decide +kernel, rfl, by decide +kernel, by decide +kernel⟩
theorem sc__law_request : FnScope ["w", "number", "pick", "other", "space", "page", "kind", "word", "pairs"] ["w", "number", "pick", "other"] (defScope s__law_request) := ⟨rfl, rfl, rfl, by decide +kernel, rfl, by decide +kernel, by decide +kernel⟩
theorem sc__law_same : FnScope ["told", "due"] ["told", "due"] (defScope s__law_same) := ⟨rfl, rfl, rfl, by decide +kernel, rfl, by decide +kernel, by decide +kernel⟩
theorem sc__law_looks : FnScope ["memory", "w", "p"] ["memory", "w"] (defScope s__law_looks) := ⟨rfl, rfl, rfl, by decide +kernel, rfl, by decide +kernel, by decide +kernel⟩
theorem sc_law : FnScope ["script", "tape", "many", "memory", "total", "w", "log", "k", "number", "p", "request", "due", "told", "cell"] ["script"] (defScope s_law) := ⟨rfl, rfl, rfl, by decide +kernel, rfl, by decide +kernel, by decide +kernel⟩
structure Ad where
  (C_Buffer C_PageError C_NotValid C_Box C_Sizes C_Memory f_leads_to_frame f_Buffer_init f_Buffer_put f_Buffer_frame_for f_Buffer_drop f_Buffer_entries f_PageError_init f_is_whole f_is_number_below f_is_tuple_of f_is_pair f_is_letter f_Box_init f_Box_send f_Box_take f_Box_letters f_is_between f_is_value f_Sizes_init f_Sizes_acknowledge f_Sizes_word f_Sizes_frame_cell f_Sizes_cells f_first_values f_bound_of f_is_part f_is_request f_Memory_init f_Memory_access f_Memory_peek f_Memory_log f_Memory__result f_Memory__swap f_Memory__take f_Memory__walk f_Memory__reached f_Memory__load f_Memory__store f_Memory__change f__law_tape f__law_at f__law_put f__law_frame f__law_use f__law_due f__law_request f__law_same f__law_looks f_law : Addr)
  (d_leads_to_frame d_Buffer_init d_Buffer_put d_Buffer_frame_for d_Buffer_drop d_Buffer_entries d_PageError_init d_is_whole d_is_number_below d_is_tuple_of d_is_pair d_is_letter d_Box_init d_Box_send d_Box_take d_Box_letters d_is_between d_is_value d_Sizes_init d_Sizes_acknowledge d_Sizes_word d_Sizes_frame_cell d_Sizes_cells d_first_values d_bound_of d_is_part d_is_request d_Memory_init d_Memory_access d_Memory_peek d_Memory_log d_Memory__result d_Memory__swap d_Memory__take d_Memory__walk d_Memory__reached d_Memory__load d_Memory__store d_Memory__change d__law_tape d__law_at d__law_put d__law_frame d__law_use d__law_due d__law_request d__law_same d__law_looks d_law : FuncData)
structure Txt (w : World) (K : PySem.W.Frag) (mg : Str → Option Value) (a : Ad) : Prop where
  m_Buffer : mg "Buffer" = some (.ref a.C_Buffer)
  m_PageError : mg "PageError" = some (.ref a.C_PageError)
  m_NotValid : mg "NotValid" = some (.ref a.C_NotValid)
  m_Box : mg "Box" = some (.ref a.C_Box)
  m_Sizes : mg "Sizes" = some (.ref a.C_Sizes)
  m_Memory : mg "Memory" = some (.ref a.C_Memory)
  F_leads_to_frame : Fun K "leads_to_frame" "leads_to_frame" s_leads_to_frame a.f_leads_to_frame a.d_leads_to_frame
  B_leads_to_frame : Binds K a.d_leads_to_frame ["word"] []
  m_leads_to_frame : mg "leads_to_frame" = some (.ref a.f_leads_to_frame)
  F_Buffer_init : Fun K "__init__" "Buffer.__init__" s_Buffer_init a.f_Buffer_init a.d_Buffer_init
  B_Buffer_init : Binds K a.d_Buffer_init ["self"] []
  F_Buffer_put : Fun K "put" "Buffer.put" s_Buffer_put a.f_Buffer_put a.d_Buffer_put
  B_Buffer_put : Binds K a.d_Buffer_put ["self", "space", "page", "word"] []
  M_Buffer_put : Meth K a.C_Buffer "put" a.f_Buffer_put
  F_Buffer_frame_for : Fun K "frame_for" "Buffer.frame_for" s_Buffer_frame_for a.f_Buffer_frame_for a.d_Buffer_frame_for
  B_Buffer_frame_for : Binds K a.d_Buffer_frame_for ["self", "space", "page", "writing"] []
  M_Buffer_frame_for : Meth K a.C_Buffer "frame_for" a.f_Buffer_frame_for
  F_Buffer_drop : Fun K "drop" "Buffer.drop" s_Buffer_drop a.f_Buffer_drop a.d_Buffer_drop
  B_Buffer_drop : Binds K a.d_Buffer_drop ["self", "pairs"] []
  M_Buffer_drop : Meth K a.C_Buffer "drop" a.f_Buffer_drop
  F_Buffer_entries : Fun K "entries" "Buffer.entries" s_Buffer_entries a.f_Buffer_entries a.d_Buffer_entries
  B_Buffer_entries : Binds K a.d_Buffer_entries ["self"] []
  M_Buffer_entries : Meth K a.C_Buffer "entries" a.f_Buffer_entries
  F_PageError_init : Fun K "__init__" "PageError.__init__" s_PageError_init a.f_PageError_init a.d_PageError_init
  B_PageError_init : Binds K a.d_PageError_init ["self"] []
  F_is_whole : Fun K "is_whole" "is_whole" s_is_whole a.f_is_whole a.d_is_whole
  B_is_whole : Binds K a.d_is_whole ["value"] []
  m_is_whole : mg "is_whole" = some (.ref a.f_is_whole)
  F_is_number_below : Fun K "is_number_below" "is_number_below" s_is_number_below a.f_is_number_below a.d_is_number_below
  B_is_number_below : Binds K a.d_is_number_below ["value", "many"] []
  m_is_number_below : mg "is_number_below" = some (.ref a.f_is_number_below)
  F_is_tuple_of : Fun K "is_tuple_of" "is_tuple_of" s_is_tuple_of a.f_is_tuple_of a.d_is_tuple_of
  B_is_tuple_of : Binds K a.d_is_tuple_of ["value", "many"] []
  m_is_tuple_of : mg "is_tuple_of" = some (.ref a.f_is_tuple_of)
  F_is_pair : Fun K "is_pair" "is_pair" s_is_pair a.f_is_pair a.d_is_pair
  B_is_pair : Binds K a.d_is_pair ["value"] []
  m_is_pair : mg "is_pair" = some (.ref a.f_is_pair)
  F_is_letter : Fun K "is_letter" "is_letter" s_is_letter a.f_is_letter a.d_is_letter
  B_is_letter : Binds K a.d_is_letter ["value"] []
  m_is_letter : mg "is_letter" = some (.ref a.f_is_letter)
  F_Box_init : Fun K "__init__" "Box.__init__" s_Box_init a.f_Box_init a.d_Box_init
  B_Box_init : Binds K a.d_Box_init ["self"] []
  F_Box_send : Fun K "send" "Box.send" s_Box_send a.f_Box_send a.d_Box_send
  B_Box_send : Binds K a.d_Box_send ["self", "letter"] []
  M_Box_send : Meth K a.C_Box "send" a.f_Box_send
  F_Box_take : Fun K "take" "Box.take" s_Box_take a.f_Box_take a.d_Box_take
  B_Box_take : Binds K a.d_Box_take ["self"] []
  M_Box_take : Meth K a.C_Box "take" a.f_Box_take
  F_Box_letters : Fun K "letters" "Box.letters" s_Box_letters a.f_Box_letters a.d_Box_letters
  B_Box_letters : Binds K a.d_Box_letters ["self"] []
  M_Box_letters : Meth K a.C_Box "letters" a.f_Box_letters
  F_is_between : Fun K "is_between" "is_between" s_is_between a.f_is_between a.d_is_between
  B_is_between : Binds K a.d_is_between ["value", "least", "most"] []
  m_is_between : mg "is_between" = some (.ref a.f_is_between)
  F_is_value : Fun K "is_value" "is_value" s_is_value a.f_is_value a.d_is_value
  B_is_value : Binds K a.d_is_value ["value"] []
  m_is_value : mg "is_value" = some (.ref a.f_is_value)
  F_Sizes_init : Fun K "__init__" "Sizes.__init__" s_Sizes_init a.f_Sizes_init a.d_Sizes_init
  B_Sizes_init : Binds K a.d_Sizes_init ["self", "processors", "frames", "blocks"] []
  F_Sizes_acknowledge : Fun K "acknowledge" "Sizes.acknowledge" s_Sizes_acknowledge a.f_Sizes_acknowledge a.d_Sizes_acknowledge
  B_Sizes_acknowledge : Binds K a.d_Sizes_acknowledge ["self", "processor"] []
  M_Sizes_acknowledge : Meth K a.C_Sizes "acknowledge" a.f_Sizes_acknowledge
  F_Sizes_word : Fun K "word" "Sizes.word" s_Sizes_word a.f_Sizes_word a.d_Sizes_word
  B_Sizes_word : Binds K a.d_Sizes_word ["self", "space", "page"] []
  M_Sizes_word : Meth K a.C_Sizes "word" a.f_Sizes_word
  F_Sizes_frame_cell : Fun K "frame_cell" "Sizes.frame_cell" s_Sizes_frame_cell a.f_Sizes_frame_cell a.d_Sizes_frame_cell
  B_Sizes_frame_cell : Binds K a.d_Sizes_frame_cell ["self", "frame", "index"] []
  M_Sizes_frame_cell : Meth K a.C_Sizes "frame_cell" a.f_Sizes_frame_cell
  F_Sizes_cells : Fun K "cells" "Sizes.cells" s_Sizes_cells a.f_Sizes_cells a.d_Sizes_cells
  B_Sizes_cells : Binds K a.d_Sizes_cells ["self"] []
  M_Sizes_cells : Meth K a.C_Sizes "cells" a.f_Sizes_cells
  F_first_values : Fun K "first_values" "first_values" s_first_values a.f_first_values a.d_first_values
  B_first_values : Binds K a.d_first_values ["sizes"] []
  m_first_values : mg "first_values" = some (.ref a.f_first_values)
  F_bound_of : Fun K "bound_of" "bound_of" s_bound_of a.f_bound_of a.d_bound_of
  B_bound_of : Binds K a.d_bound_of ["kind", "sizes"] []
  m_bound_of : mg "bound_of" = some (.ref a.f_bound_of)
  F_is_part : Fun K "is_part" "is_part" s_is_part a.f_is_part a.d_is_part
  B_is_part : Binds K a.d_is_part ["part", "kind", "sizes"] []
  m_is_part : mg "is_part" = some (.ref a.f_is_part)
  F_is_request : Fun K "is_request" "is_request" s_is_request a.f_is_request a.d_is_request
  B_is_request : Binds K a.d_is_request ["value", "sizes"] []
  m_is_request : mg "is_request" = some (.ref a.f_is_request)
  F_Memory_init : Fun K "__init__" "Memory.__init__" s_Memory_init a.f_Memory_init a.d_Memory_init
  B_Memory_init : Binds K a.d_Memory_init ["self", "sizes"] []
  F_Memory_access : Fun K "access" "Memory.access" s_Memory_access a.f_Memory_access a.d_Memory_access
  B_Memory_access : Binds K a.d_Memory_access ["self", "processor", "request"] []
  M_Memory_access : Meth K a.C_Memory "access" a.f_Memory_access
  F_Memory_peek : Fun K "peek" "Memory.peek" s_Memory_peek a.f_Memory_peek a.d_Memory_peek
  B_Memory_peek : Binds K a.d_Memory_peek ["self", "cell"] []
  M_Memory_peek : Meth K a.C_Memory "peek" a.f_Memory_peek
  F_Memory_log : Fun K "log" "Memory.log" s_Memory_log a.f_Memory_log a.d_Memory_log
  B_Memory_log : Binds K a.d_Memory_log ["self"] []
  M_Memory_log : Meth K a.C_Memory "log" a.f_Memory_log
  F_Memory__result : Fun K "_result" "Memory._result" s_Memory__result a.f_Memory__result a.d_Memory__result
  B_Memory__result : Binds K a.d_Memory__result ["self", "processor", "request"] []
  M_Memory__result : Meth K a.C_Memory "_result" a.f_Memory__result
  F_Memory__swap : Fun K "_swap" "Memory._swap" s_Memory__swap a.f_Memory__swap a.d_Memory__swap
  B_Memory__swap : Binds K a.d_Memory__swap ["self", "cell", "old", "new"] []
  M_Memory__swap : Meth K a.C_Memory "_swap" a.f_Memory__swap
  F_Memory__take : Fun K "_take" "Memory._take" s_Memory__take a.f_Memory__take a.d_Memory__take
  B_Memory__take : Binds K a.d_Memory__take ["self", "processor"] []
  M_Memory__take : Meth K a.C_Memory "_take" a.f_Memory__take
  F_Memory__walk : Fun K "_walk" "Memory._walk" s_Memory__walk a.f_Memory__walk a.d_Memory__walk
  B_Memory__walk : Binds K a.d_Memory__walk ["self", "processor", "space", "page"] []
  M_Memory__walk : Meth K a.C_Memory "_walk" a.f_Memory__walk
  F_Memory__reached : Fun K "_reached" "Memory._reached" s_Memory__reached a.f_Memory__reached a.d_Memory__reached
  B_Memory__reached : Binds K a.d_Memory__reached ["self", "processor", "space", "page", "index", "writing"] []
  M_Memory__reached : Meth K a.C_Memory "_reached" a.f_Memory__reached
  F_Memory__load : Fun K "_load" "Memory._load" s_Memory__load a.f_Memory__load a.d_Memory__load
  B_Memory__load : Binds K a.d_Memory__load ["self", "cell"] []
  M_Memory__load : Meth K a.C_Memory "_load" a.f_Memory__load
  F_Memory__store : Fun K "_store" "Memory._store" s_Memory__store a.f_Memory__store a.d_Memory__store
  B_Memory__store : Binds K a.d_Memory__store ["self", "cell", "value"] []
  M_Memory__store : Meth K a.C_Memory "_store" a.f_Memory__store
  F_Memory__change : Fun K "_change" "Memory._change" s_Memory__change a.f_Memory__change a.d_Memory__change
  B_Memory__change : Binds K a.d_Memory__change ["self", "cell", "old", "new"] []
  M_Memory__change : Meth K a.C_Memory "_change" a.f_Memory__change
  F__law_tape : Fun K "_law_tape" "_law_tape" s__law_tape a.f__law_tape a.d__law_tape
  B__law_tape : Binds K a.d__law_tape ["script"] []
  m__law_tape : mg "_law_tape" = some (.ref a.f__law_tape)
  F__law_at : Fun K "_law_at" "_law_at" s__law_at a.f__law_at a.d__law_at
  B__law_at : Binds K a.d__law_at ["tape", "k"] []
  m__law_at : mg "_law_at" = some (.ref a.f__law_at)
  F__law_put : Fun K "_law_put" "_law_put" s__law_put a.f__law_put a.d__law_put
  B__law_put : Binds K a.d__law_put ["rows", "space", "page", "word"] []
  m__law_put : mg "_law_put" = some (.ref a.f__law_put)
  F__law_frame : Fun K "_law_frame" "_law_frame" s__law_frame a.f__law_frame a.d__law_frame
  B__law_frame : Binds K a.d__law_frame ["rows", "space", "page", "writing"] []
  m__law_frame : mg "_law_frame" = some (.ref a.f__law_frame)
  F__law_use : Fun K "_law_use" "_law_use" s__law_use a.f__law_use a.d__law_use
  B__law_use : Binds K a.d__law_use ["w", "p", "request"] []
  m__law_use : mg "_law_use" = some (.ref a.f__law_use)
  F__law_due : Fun K "_law_due" "_law_due" s__law_due a.f__law_due a.d__law_due
  B__law_due : Binds K a.d__law_due ["w", "p", "request"] []
  m__law_due : mg "_law_due" = some (.ref a.f__law_due)
  F__law_request : Fun K "_law_request" "_law_request" s__law_request a.f__law_request a.d__law_request
  B__law_request : Binds K a.d__law_request ["w", "number", "pick", "other"] []
  m__law_request : mg "_law_request" = some (.ref a.f__law_request)
  F__law_same : Fun K "_law_same" "_law_same" s__law_same a.f__law_same a.d__law_same
  B__law_same : Binds K a.d__law_same ["told", "due"] []
  m__law_same : mg "_law_same" = some (.ref a.f__law_same)
  F__law_looks : Fun K "_law_looks" "_law_looks" s__law_looks a.f__law_looks a.d__law_looks
  B__law_looks : Binds K a.d__law_looks ["memory", "w"] []
  m__law_looks : mg "_law_looks" = some (.ref a.f__law_looks)
  F_law : Fun K "law" "law" s_law a.f_law a.d_law
  B_law : Binds K a.d_law ["script"] []
  m_law : mg "law" = some (.ref a.f_law)
  c_Buffer : Cls K a.C_Buffer
  mk_Buffer : Mk K a.C_Buffer a.f_Buffer_init
  n_Buffer__entries : NoAttr K a.C_Buffer "_entries"
  c_Box : Cls K a.C_Box
  mk_Box : Mk K a.C_Box a.f_Box_init
  n_Box__letters : NoAttr K a.C_Box "_letters"
  c_Sizes : Cls K a.C_Sizes
  mk_Sizes : Mk K a.C_Sizes a.f_Sizes_init
  n_Sizes_processors : NoAttr K a.C_Sizes "processors"
  n_Sizes_frames : NoAttr K a.C_Sizes "frames"
  n_Sizes_blocks : NoAttr K a.C_Sizes "blocks"
  n_Sizes__acknowledges : NoAttr K a.C_Sizes "_acknowledges"
  n_Sizes__words : NoAttr K a.C_Sizes "_words"
  n_Sizes__frame_cells : NoAttr K a.C_Sizes "_frame_cells"
  n_Sizes__swap_blocks : NoAttr K a.C_Sizes "_swap_blocks"
  n_Sizes__file_blocks : NoAttr K a.C_Sizes "_file_blocks"
  c_Memory : Cls K a.C_Memory
  mk_Memory : Mk K a.C_Memory a.f_Memory_init
  n_Memory_sizes : NoAttr K a.C_Memory "sizes"
  n_Memory_count : NoAttr K a.C_Memory "count"
  n_Memory_buffers : NoAttr K a.C_Memory "buffers"
  n_Memory_boxes : NoAttr K a.C_Memory "boxes"
  n_Memory__cells : NoAttr K a.C_Memory "_cells"
  n_Memory__log : NoAttr K a.C_Memory "_log"
  k_CELLS : ∃ u, mg "CELLS" = some u ∧ RelV (.int 2) u
  k_FILES : ∃ u, mg "FILES" = some u ∧ RelV (.int 2) u
  k_FILE_PAGES : ∃ u, mg "FILE_PAGES" = some u ∧ RelV (.int 4) u
  k_MOST_ENTRIES : ∃ u, mg "MOST_ENTRIES" = some u ∧ RelV (.int 2) u
  k_PAGES : ∃ u, mg "PAGES" = some u ∧ RelV (.int 8) u
  k_SPACES : ∃ u, mg "SPACES" = some u ∧ RelV (.int 4) u
  b_ValueError : mg "ValueError" = none
  b_abs : mg "abs" = none
  b_all : mg "all" = none
  b_bool : mg "bool" = none
  b_dict : mg "dict" = none
  b_int : mg "int" = none
  b_isinstance : mg "isinstance" = none
  b_len : mg "len" = none
  b_list : mg "list" = none
  b_max : mg "max" = none
  b_min : mg "min" = none
  b_range : mg "range" = none
  b_str : mg "str" = none
  b_tuple : mg "tuple" = none
  b_zip : mg "zip" = none
  vV : PySem.W.findCls K (.type "ValueError") (.type "type") "__init__" = some (.val (.builtin "ValueError.__init__"))
  xi_NotValid : PySem.W.findIn K (.ref a.C_NotValid) "__init__" = some (some (.ref a.f_PageError_init))
  xt_NotValid : PySem.W.typeIn K (.ref a.f_PageError_init) = some (.type "function")
  xs_NotValid : PySem.W.findIn K (.ref a.C_NotValid) "__setattr__" = some (some (.builtin "object.__setattr__"))
  xb_NotValid : PySem.W.subIn K (.ref a.C_NotValid) (.type "BaseException") = some true
  xy_NotValid : PySem.W.typeIn K (.ref a.C_NotValid) = some (.type "type")
  xk_NotValid : PySem.W.keepIn K (.ref a.C_NotValid) = true
  e1 : PySem.W.findIn K (.ref a.C_NotValid) "__getattribute__" = some (some (.builtin "BaseException.__getattribute__"))
  e2 : PySem.W.findIn K (.ref a.C_NotValid) "__getattr__" = some none
  e4 : PySem.W.hasDictIn K a.C_NotValid = true
  e5 : PySem.W.findIn K (.ref a.C_NotValid) "__class__" = some (some (.builtin "object.__class__"))
  e6 : PySem.W.specialIn K (.builtin "object.__class__") "__get__" = some (some (.builtin "getset_descriptor.__get__"))
  e7 : PySem.W.takesIn K (.builtin "object.__class__") = some true
  e8 : PySem.W.mroIn K a.C_NotValid (.type "object") = some true
  p1 : PySem.W.subIn K (.ref a.C_PageError) (.type "BaseException") = some true
  p2 : PySem.W.hasDictIn K a.C_PageError = true
  p3 : PySem.W.typeIn K (.ref a.C_PageError) = some (.type "type")
  p4 : PySem.W.subIn K (.ref a.C_NotValid) (.ref a.C_PageError) = some true
  q4 : PySem.W.kitOne K (.ref a.C_NotValid) (.ref a.C_NotValid) = some true
  x_NotValid : OexC K a.C_NotValid
  e_NotValid : ExcC K a.C_NotValid
  pt : PartsAt w K mg
/-! ### the tape: what it holds does not matter, only that it holds few numbers from 0 to 999 -/
def Dig (ts : List Int) : Prop := ∀ t ∈ ts, 0 ≤ t ∧ t < 1000
theorem Dig.nil : Dig [] := fun _ h => absurd h List.not_mem_nil
theorem Dig.snoc {ts : List Int} {x : Int} (h : Dig ts) (h0 : 0 ≤ x) (h1 : x < 1000) : Dig (ts ++ [x]) := fun t ht => by
  rcases List.mem_append.mp ht with ht | ht
  · exact h t ht
  · rw [List.mem_singleton.mp ht]
    exact ⟨h0, h1⟩
def spTape (K : PySem.W.Frag) : Sp := fun vs H Q _ => ∃ (p : Addr) (ns : List Int), vs = [.ref p] ∧ SqL K H p (ns.map V.int) ∧ ns.length ≤ 63 ∧
  ∀ (H' : Hp) (t : Addr) (ts : List Int), Same H H' → H t = none → H' t = some (.lst (ts.map V.int)) → Dig ts → ts.length ≤ 3780 → Q (.ref t) H'
def spAt (K : PySem.W.Frag) : Sp := fun vs H Q _ => ∃ (t : Addr) (ts : List Int) (k : Int), vs = [.ref t, .int k] ∧ SqL K H t (ts.map V.int) ∧ 0 ≤ k ∧ Dig ts ∧ ∀ x : Int, 0 ≤ x → x < 1000 → Q (.int x) H
section
variable {P : Program} {w : World} {K : PySem.W.Frag} {mg : Str → Option Value} {base : Heap} {a : Ad}
theorem mod1000 (v : Int) : 0 ≤ v % 1000 ∧ v % 1000 < 1000 := ⟨Int.emod_nonneg _ (by decide), Int.emod_lt_of_pos _ (by decide)⟩
theorem snoc_int (ts : List Int) (x : Int) : ts.map V.int ++ [V.int x] = (ts ++ [x]).map V.int := by rw [List.map_append]; rfl
theorem ok__law_tape (T : Txt w K mg a) : FnOk P w K mg base CX0 1 a.f__law_tape a.d__law_tape ["script"] (spTape K) := by
  refine T.F__law_tape.ok sc__law_tape (fun vs H Q E h => ?_) (fun cdv A outer s H vs Q E hr h => ?_)
  · obtain ⟨p, ns, rfl, _⟩ := h
    rfl
  · obtain ⟨sp, ns, rfl, hS, hlen, q⟩ := h
    refine ⟨_, (pss_cons (ps_set (i := 1) sc__law_tape.nd rfl (Or.inl rfl) (pe_lst pa_nil))
    (pss_cons (ps_for PassesOwn.never rfl (pi_range1 rfl T.b_range (pa_cons (pe_callB call_len_seq (by rfl) T.b_len (by decide +kernel) (pa_cons (pv 0) pa_nil)) pa_nil)) (pg_name (i := 2) sc__law_tape.nd rfl (Or.inl rfl))
    (pss_cons (ps_set (i := 3) sc__law_tape.nd rfl (Or.inl rfl) (pe_callB call_abs (by rfl) T.b_abs (by decide +kernel) (pa_cons (pe_callTy call_int1 (by rfl) T.b_int (by decide +kernel) (pa_cons (pe_ix ix_list (pv 0) (pv 2) (fun _ _ => rfl)) pa_nil)) pa_nil)))
    (pss_one (ps_if (pt_cmpR (op_ge) (pv 3) (pe_op op_pow pe_int pe_int) (nomark _)) (pss_one (ps_for PassesOwn.never rfl (pi_range1 rfl T.b_range (pa_cons pe_int pa_nil)) (pg_name (i := 4) sc__law_tape.nd rfl (Or.inl rfl))
    (pss_one (ps_if (pt_cmpR (op_gt) (pv 3) pe_int (nomark _)) (pss_cons (ps_expr (pe_bm PySem.F.plainAttrs_list PySem.F.slot_list_append PySem.F.type_list_append mt_append (pv 1) (pa_cons (pe_op op_mod (pv 3) pe_int) pa_nil)))
    (pss_one (ps_set (i := 3) sc__law_tape.nd rfl (Or.inl rfl) (pe_op op_fdiv (pv 3) pe_int)))) pss_nil)))) (pss_one (ps_for PassesOwn.never rfl (pi_range1 rfl T.b_range (pa_cons pe_int pa_nil)) (pg_name (i := 4) sc__law_tape.nd rfl (Or.inl rfl))
    (pss_cons (ps_set (i := 3) sc__law_tape.nd rfl (Or.inl rfl) (pe_op op_mod (pe_op op_add (pe_op op_add (pe_op op_mul (pv 3) pe_int) (pe_op op_mul pe_int (pe_op op_add (pv 2) pe_int))) (pe_op op_mul pe_int (pv 4))) pe_int))
    (pss_cons (ps_set (i := 3) sc__law_tape.nd rfl (Or.inl rfl) (pe_op op_mod (pe_op op_mul (pv 3) pe_int) pe_int))
    (pss_one (ps_expr (pe_bm PySem.F.plainAttrs_list PySem.F.slot_list_append PySem.F.type_list_append mt_append (pv 1) (pa_cons (pe_op op_mod (pe_op op_fdiv (pv 3) pe_int) pe_int) pa_nil))))))))))))
    (pss_one (ps_ret (pv 1))))), ?_⟩
    have len0 : ((List.length (ns.map V.int) : Nat) : Int) ≤ 63 := by rw [List.length_map]; omega
    refine ⟨Nat.zero_le _, fun p hp => ?_⟩
    refine ⟨_, rfl, sp, _, rfl, .inl ((Same.new hp).seq hS), _, rfl, by omega, by omega,
      for_range (lo := 0) (n := ((List.length (ns.map V.int) : Nat) : Int).toNat)
        (fun i σ H' => ∃ (x2 x3 x4 : Option V) (ts : List Int), σ = [some (.ref sp), some (.ref p), x2, x3, x4] ∧ Same H H' ∧ H' p = some (.lst (ts.map V.int)) ∧ Dig ts ∧ ts.length ≤ 60 * i)
        ⟨none, none, none, [], rfl, Same.new hp, upd_same, Dig.nil, Nat.le_refl _⟩ ?_ ?_⟩
    · rintro i σ H' hi ⟨x2, x3, x4, ts, rfl, eS, hL, dg, hl⟩
      rw [List.length_map] at hi
      have hi2 : i < ns.length := by omega
      refine ⟨_, rfl, _, rfl, _, _, _, .int ns[i], rfl, rfl, eS.seq hS, at_of (j := i) (by omega) (by rw [List.getElem?_map, List.getElem?_eq_getElem hi2]; rfl), ?_⟩
      refine .inl ⟨_, rfl, _, rfl, ?_⟩
      refine ⟨_, rfl, _, _, rfl, rfl, ⟨by decide, by decide, by decide⟩, _, _, rfl, rfl, _, rfl, ?_⟩
      refine ite2 (fun c => ?_) (fun c => ?_)
      · refine ⟨60, rfl, by decide, by decide, for_range (lo := 0) (n := (60 : Int).toNat)
          (fun j σ H' => ∃ (v : Int) (x4 : Option V) (ts : List Int), σ = [some (.ref sp), some (.ref p), some (.int (0 + (i : Int))), some (.int v), x4] ∧ Same H H' ∧ H' p = some (.lst (ts.map V.int)) ∧ Dig ts ∧ ts.length ≤ 60 * i + j)
          ⟨_, _, ts, rfl, eS, hL, dg, hl⟩ ?_ ?_⟩
        · rintro j σ H2 hj ⟨v, x4, ts, rfl, eS, hL, dg, hl⟩
          refine ⟨_, rfl, _, _, rfl, rfl, _, rfl, ?_⟩
          have hj2 : j < 60 := hj
          refine ite2 (fun c2 => ?_) (fun c2 => ?_)
          · obtain ⟨m0, m1⟩ := mod1000 v
            refine ⟨_, rfl, .inl ⟨rfl, _, SqL.of hL⟩, _, rfl, _, _, rfl, rfl, (by show (0 : Int) < 1000; decide), p, _, _, rfl, rfl, hL, ?_, ?_⟩
            · rw [List.length_map]
              exact Nat.lt_of_le_of_lt (by omega : ts.length ≤ 4000) (by decide)
            · refine ⟨_, rfl, _, _, rfl, rfl, ⟨by decide, by decide⟩, ?_⟩
              refine ⟨_, _, ts ++ [v % 1000], rfl, Same.put eS hp, ?_, dg.snoc m0 m1, ?_⟩
              · rw [upd_same, snoc_int]
              · rw [List.length_append, List.length_singleton]
                omega
          · exact ⟨v, _, ts, rfl, eS, hL, dg, by omega⟩
        · rintro σ H2 ⟨v, x4, ts, rfl, eS, hL, dg, hl⟩
          exact ⟨_, _, _, ts, rfl, eS, hL, dg, by simp at hl; omega⟩
      · refine ⟨4, rfl, by decide, by decide, for_range (lo := 0) (n := (4 : Int).toNat)
          (fun j σ H' => ∃ (v : Int) (x4 : Option V) (ts : List Int), σ = [some (.ref sp), some (.ref p), some (.int (0 + (i : Int))), some (.int v), x4] ∧ Same H H' ∧ H' p = some (.lst (ts.map V.int)) ∧ Dig ts ∧ ts.length ≤ 60 * i + j)
          ⟨_, _, ts, rfl, eS, hL, dg, hl⟩ ?_ ?_⟩
        · rintro j σ H2 hj ⟨v, x4, ts, rfl, eS, hL, dg, hl⟩
          have hj2 : j < 4 := hj
          refine ⟨_, rfl, _, _, rfl, rfl, .inr ⟨by decide, by decide⟩, _, rfl, _, _, rfl, rfl, _, _, rfl, rfl, .inl ⟨by decide, by decide⟩, _, _, rfl, rfl, _, rfl, _, _, rfl, rfl, .inl ⟨by decide, by decide⟩,
            _, _, rfl, rfl, _, _, rfl, rfl, (by show (0 : Int) < 2147483647; decide), ?_⟩
          refine ⟨_, rfl, _, _, rfl, rfl, .inr ⟨by decide, by decide⟩, _, _, rfl, rfl, (by show (0 : Int) < 2147483647; decide), ?_⟩
          refine ⟨_, rfl, .inl ⟨rfl, _, SqL.of hL⟩, _, rfl, _, _, rfl, rfl, ⟨by decide, by decide⟩, _, _, rfl, rfl, (by show (0 : Int) < 1000; decide), p, _, _, rfl, rfl, hL, ?_, ?_⟩
          · rw [List.length_map]
            exact Nat.lt_of_le_of_lt (by omega : ts.length ≤ 4000) (by decide)
          · refine ⟨_, _, ts ++ [((v * 48271 + 69621 * (0 + (i : Int) + 1) + 7 * (0 + (j : Int))) % 2147483647 * 16807 % 2147483647 / 1000) % 1000], rfl, Same.put eS hp, ?_, dg.snoc (mod1000 _).1 (mod1000 _).2, ?_⟩
            · rw [upd_same, snoc_int]
            · rw [List.length_append, List.length_singleton]
              omega
        · rintro σ H2 ⟨v, x4, ts, rfl, eS, hL, dg, hl⟩
          exact ⟨_, _, _, ts, rfl, eS, hL, dg, by simp at hl; omega⟩
    · rintro σ H' ⟨x2, x3, x4, ts, rfl, eS, hL, dg, hl⟩
      refine ⟨_, rfl, q H' p ts eS hp hL dg ?_⟩
      omega
theorem ok__law_at (T : Txt w K mg a) : FnOk P w K mg base CX0 1 a.f__law_at a.d__law_at ["tape", "k"] (spAt K) := by
  refine T.F__law_at.ok sc__law_at (fun vs H Q E h => ?_) (fun cdv A outer s H vs Q E hr h => ?_)
  · obtain ⟨t, ts, k, rfl, _⟩ := h
    rfl
  · obtain ⟨t, ts, k, rfl, hS, hk, dg, q⟩ := h
    refine ⟨_, (pss_cons (ps_if (pt_cmpR (op_lt) (pv 1) (pe_callB call_len_seq (by rfl) T.b_len (by decide +kernel) (pa_cons (pv 0) pa_nil)) (nomark _)) (pss_one (ps_ret (pe_ix ix_list (pv 0) (pv 1) (fun _ _ => rfl)))) pss_nil)
    (pss_one (ps_ret pe_int))), ?_⟩
    refine ⟨_, rfl, _, rfl, t, _, rfl, .inl hS, _, _, rfl, rfl, _, rfl, ?_⟩
    refine ite2 (fun c => ?_) (fun c => ?_)
    · have hk2 : k.toNat < ts.length := by
        rw [List.length_map] at c
        have c2 := of_decide_eq_true c
        omega
      obtain ⟨h0, h1⟩ := dg ts[k.toNat] (List.getElem_mem _)
      refine ⟨_, rfl, _, rfl, t, _, _, .int ts[k.toNat], rfl, rfl, hS, at_of (j := k.toNat) (by omega) (by rw [List.getElem?_map, List.getElem?_eq_getElem hk2]; rfl), q _ h0 h1⟩
    · exact q 0 (by decide) (by decide)
end

section
variable {P : Program} {w : World} {K : PySem.W.Frag} {mg : Str → Option Value} {base : Heap} {a : Ad}
theorem ok_is_whole (T : Txt w K mg a) : FnOk P w K mg base CX0 1 a.f_is_whole a.d_is_whole ["value"] (spWhole K) := by
  refine T.F_is_whole.ok sc_is_whole (fun vs H Q E h => ?_) (fun cdv A outer s H vs Q E hr h => ?_)
  · obtain ⟨v, d, rfl, _⟩ := h
    rfl
  · obtain ⟨v, d, rfl, hd, q⟩ := h
    refine ⟨_, (pss_one (ps_ret (pe_and (pe_callB call_isi (by rfl) T.b_isinstance (by decide +kernel) (pa_cons (pv 0) (pa_cons (pe_bltn (v := .ty "int") rfl T.b_int (by decide +kernel) rfl) pa_nil))) (pe_one (pe_not (pe_callB call_isi (by rfl) T.b_isinstance (by decide +kernel) (pa_cons (pv 0) (pa_cons (pe_bltn (v := .ty "bool") rfl T.b_bool (by decide +kernel) rfl) pa_nil)))))))), ?_⟩
    have ty := tyx hd
    refine ⟨_, rfl, _, _, _, _, _, rfl, .ty _, ty, kit_int d, _, rfl, ?_⟩
    cases d with
    | int i => exact iteT ⟨_, rfl, _, _, _, _, _, rfl, .ty _, ty, kit_bool _, _, rfl, q⟩
    | bool b => exact iteT ⟨_, rfl, _, _, _, _, _, rfl, .ty _, ty, kit_bool _, _, rfl, q⟩
    | none => exact iteF q
    | str x => exact iteF q
    | list xs => exact iteF q
    | tuple xs => exact iteF q
    | dict xs => exact iteF q
theorem ok_is_number_below (T : Txt w K mg a) : FnOk P w K mg base CX0 2 a.f_is_number_below a.d_is_number_below ["value", "many"] (spBelow K) := by
  refine T.F_is_number_below.ok sc_is_number_below (fun vs H Q E h => ?_) (fun cdv A outer s H vs Q E hr h => ?_)
  · obtain ⟨v, d, n, rfl, _⟩ := h
    rfl
  · obtain ⟨v, d, n, rfl, hd, q⟩ := h
    refine ⟨_, (pss_one (ps_ret (pe_and (pe_call (ok_is_whole T) (hr.mono (by decide)) rfl T.m_is_whole T.F_is_whole.kp T.B_is_whole .nil pass0 (pa_cons (pv 0) pa_nil)) (pe_one (pe_chain (op_le) (op_lt) pe_int (pv 0) (pv 1)))))), ?_⟩
    refine ⟨_, rfl, _, d, rfl, hd, _, rfl, ?_⟩
    cases d with
    | int i =>
      cases hd
      refine iteT ⟨_, rfl, _, _, rfl, rfl, _, rfl, ?_⟩
      refine ite2 (fun c => ?_) (fun c => ?_)
      · refine ⟨_, rfl, _, _, rfl, rfl, ?_⟩
        have e : belowD (.int i) n = decide (i < n) := by simp only [belowD, c, Bool.true_and]
        rw [e] at q
        exact q
      · have e : belowD (.int i) n = false := by simp only [belowD, Bool.eq_false_iff.mpr c, Bool.false_and]
        rw [e] at q
        exact q
    | bool b => exact iteF q
    | none => exact iteF q
    | str x => exact iteF q
    | list xs => exact iteF q
    | tuple xs => exact iteF q
    | dict xs => exact iteF q

theorem ok_is_tuple_of (T : Txt w K mg a) : FnOk P w K mg base CX0 1 a.f_is_tuple_of a.d_is_tuple_of ["value", "many"] (spTupOf K) := by
  refine T.F_is_tuple_of.ok sc_is_tuple_of (fun vs H Q E h => ?_) (fun cdv A outer s H vs Q E hr h => ?_)
  · obtain ⟨v, d, n, rfl, _⟩ := h
    rfl
  · obtain ⟨v, d, n, rfl, hd, q⟩ := h
    refine ⟨_, (pss_one (ps_ret (pe_and (pe_callB call_isi (by rfl) T.b_isinstance (by decide +kernel) (pa_cons (pv 0) (pa_cons (pe_bltn (v := .ty "tuple") rfl T.b_tuple (by decide +kernel) rfl) pa_nil))) (pe_one (pe_cmpR (op_eq) (pe_callB call_len_seq (by rfl) T.b_len (by decide +kernel) (pa_cons (pv 0) pa_nil)) (pv 1) (nomark _)))))), ?_⟩
    have ty := tyx hd
    refine ⟨_, rfl, _, _, _, _, _, rfl, .ty _, ty, kit_tup d, _, rfl, ?_⟩
    cases d with
    | tuple ds =>
      cases hd with
      | @tup p xs _ s1 q1 =>
        refine iteT ⟨_, rfl, _, _, rfl, .inr s1, _, rfl, rfl, ?_⟩
        have e : decide (V.int (xs.length : Int) = V.int n) = tupD (.tuple ds) n := by
          simp only [tupD, dpAll_len q1, V.int.injEq]
        rw [e]
        exact q
    | int b => exact iteF q
    | bool b => exact iteF q
    | none => exact iteF q
    | str x => exact iteF q
    | list xs => exact iteF q
    | dict xs => exact iteF q

theorem ok_PageError_init (T : Txt w K mg a) : FnOk P w K mg base CX0 1 a.f_PageError_init a.d_PageError_init ["self"] (spNop K) := by
  refine T.F_PageError_init.ok sc_PageError_init (fun vs H Q E h => ?_) (fun cdv A outer s H vs Q E hr h => ?_)
  · obtain ⟨x, C, rfl, _⟩ := h
    rfl
  · obtain ⟨x, C, rfl, hC, hx, q⟩ := h
    refine ⟨_, (pss_one (ps_expr (pe_veinit rfl T.b_ValueError T.vV (pa_cons (pv 0) pa_nil)))), ?_⟩
    exact ⟨_, rfl, x, C, [], rfl, Nat.zero_le _, hC, hx, q⟩

theorem ok_is_between (T : Txt w K mg a) : FnOk P w K mg base CX0 2 a.f_is_between a.d_is_between ["value", "least", "most"] (spBetween) := by
  refine T.F_is_between.ok sc_is_between (fun vs H Q E h => ?_) (fun cdv A outer s H vs Q E hr h => ?_)
  · obtain ⟨v, l, m, rfl, _⟩ := h
    rfl
  · obtain ⟨v, l, m, rfl, q⟩ := h
    refine ⟨_, (pss_one (ps_ret (pe_and (pe_call (ok_is_whole T) (hr.mono (by decide)) rfl T.m_is_whole T.F_is_whole.kp T.B_is_whole .nil pass0 (pa_cons (pv 0) pa_nil)) (pe_one (pe_chain (op_le) (op_le) (pv 1) (pv 0) (pv 2)))))), ?_⟩
    refine ⟨_, rfl, _, .int v, rfl, .int v, _, rfl, iteT ⟨_, rfl, _, rfl, _, _, rfl, rfl, _, rfl, ?_⟩⟩
    refine ite2 (fun c => ?_) (fun c => ?_)
    · refine ⟨_, rfl, _, _, rfl, rfl, ?_⟩
      rw [c, Bool.true_and] at q
      exact q
    · rw [Bool.eq_false_iff.mpr c, Bool.false_and] at q
      exact q
theorem ok_Sizes_init (T : Txt w K mg a) : FnOk P w K mg base (L2.CX P w) 4 a.f_Sizes_init a.d_Sizes_init ["self", "processors", "frames", "blocks"] (spSizesInit a.C_Sizes a.C_NotValid) := by
  refine T.F_Sizes_init.okX sc_Sizes_init (fun vs H Q E h => ?_) (fun cdv A outer s H vs Q E hr h => ?_)
  · obtain ⟨z, dx, p, f, b, rfl, _⟩ := h
    rfl
  · obtain ⟨z, dx, p, f, b, rfl, hz, yes, no⟩ := h
    refine ⟨_, (pss_cons (ps_if (PW.pt (pw_or (pt_not (pt_val (pe_call (ok_is_between T) (hr.mono (by decide)) rfl T.m_is_between T.F_is_between.kp T.B_is_between .nil pass0 (pa_cons (pv 1) (pa_cons pe_int (pa_cons pe_int pa_nil)))))) (pw_or (pt_not (pt_val (pe_call (ok_is_between T) (hr.mono (by decide)) rfl T.m_is_between T.F_is_between.kp T.B_is_between .nil pass0 (pa_cons (pv 2) (pa_cons pe_int (pa_cons pe_int pa_nil)))))) (pw_or1 (pt_not (pt_val (pe_call (ok_is_between T) (hr.mono (by decide)) rfl T.m_is_between T.F_is_between.kp T.B_is_between .nil pass0 (pa_cons (pv 3) (pa_cons pe_int (pa_cons pe_int pa_nil)))))))))) (pss_one (ps_raise rfl (takes_of rfl rfl rfl rfl) (mk_exc0 T.x_NotValid T.xi_NotValid T.xt_NotValid (ok_PageError_init T) (hr.mono (by decide)) T.B_PageError_init pass0 rfl T.m_NotValid))) pss_nil)
    (pss_cons (ps_fld (pv 0) (pv 1) rfl)
    (pss_cons (ps_fld (pv 0) (pv 2) rfl)
    (pss_cons (ps_fld (pv 0) (pv 3) rfl)
    (pss_cons (ps_fld (pv 0) pe_int rfl)
    (pss_cons (ps_fld (pv 0) (pe_op op_add (pe_fld (pv 0) rfl) (pv 1)) rfl)
    (pss_cons (ps_fld (pv 0) (pe_op op_add (pe_fld (pv 0) rfl) (pe_op op_mul (pe_con rfl T.k_SPACES) (pe_con rfl T.k_PAGES))) rfl)
    (pss_cons (ps_fld (pv 0) (pe_op op_add (pe_fld (pv 0) rfl) (pe_op op_mul (pe_con rfl T.k_CELLS) (pv 2))) rfl)
    (pss_one (ps_fld (pv 0) (pe_op op_add (pe_fld (pv 0) rfl) (pv 3)) rfl)))))))))), ?_⟩
    have bad : okSz p f b = false → ∀ x : Addr, H x = none → E (.ref a.C_NotValid) none (del (upd H x (exo x a.C_NotValid none)) x) := fun k x hx => no k _ fun b2 o h2 => by
      have ne := ne_of_none h2 hx
      rw [del_ne ne, upd_ne ne]
      exact h2
    refine ⟨_, rfl, _, _, _, rfl, ?_⟩
    cases e1 : (decide (1 ≤ p) && decide (p ≤ 3)) with
    | false => exact ⟨_, rfl, iteT (iteT fun x hx => ⟨x, a.C_NotValid, rfl, T.x_NotValid, upd_same, rfl, upd_same, bad (by unfold okSz; rw [e1]; rfl) x hx⟩)⟩
    | true =>
    refine ⟨_, rfl, iteF ⟨_, rfl, _, _, _, rfl, ?_⟩⟩
    cases e2 : (decide (2 ≤ f) && decide (f ≤ 12)) with
    | false => exact ⟨_, rfl, iteT (iteT fun x hx => ⟨x, a.C_NotValid, rfl, T.x_NotValid, upd_same, rfl, upd_same, bad (by unfold okSz; rw [e1, e2]; rfl) x hx⟩)⟩
    | true =>
    refine ⟨_, rfl, iteF ⟨_, rfl, _, _, _, rfl, ?_⟩⟩
    cases e3 : (decide (0 ≤ b) && decide (b ≤ 12)) with
    | false => exact ⟨_, rfl, iteT fun x hx => ⟨x, a.C_NotValid, rfl, T.x_NotValid, upd_same, rfl, upd_same, bad (by unfold okSz; rw [e1, e2, e3]; rfl) x hx⟩⟩
    | true =>
      have k : okSz p f b = true := by unfold okSz; rw [e1, e2, e3]; rfl
      refine ⟨_, rfl, iteF ?_⟩
      have s0 : SameBut z H H := fun _ _ _ h => h
      refine ⟨_, rfl, _, rfl, z, a.C_Sizes, dx, _, rfl, hz, T.c_Sizes, T.n_Sizes_processors, (by show 0 < 1000; decide), ?_⟩
      have s1 := s0.own (o := .ins a.C_Sizes dx [("processors", .int p)])
      refine ⟨_, rfl, _, rfl, z, a.C_Sizes, dx, _, rfl, upd_same, T.c_Sizes, T.n_Sizes_frames, (by show 1 < 1000; decide), ?_⟩
      have s2 := s1.own (o := .ins a.C_Sizes dx [("processors", .int p), ("frames", .int f)])
      refine ⟨_, rfl, _, rfl, z, a.C_Sizes, dx, _, rfl, upd_same, T.c_Sizes, T.n_Sizes_blocks, (by show 2 < 1000; decide), ?_⟩
      have s3 := s2.own (o := .ins a.C_Sizes dx [("processors", .int p), ("frames", .int f), ("blocks", .int b)])
      refine ⟨_, rfl, z, a.C_Sizes, dx, _, rfl, upd_same, T.c_Sizes, T.n_Sizes__acknowledges, (by show 3 < 1000; decide), ?_⟩
      have s4 := s3.own (o := .ins a.C_Sizes dx ((szF p f b).take 4))
      refine ⟨_, rfl, z, a.C_Sizes, dx, _, _, rfl, upd_same, T.c_Sizes, T.n_Sizes__acknowledges, rfl, _, rfl, _, _, rfl, rfl, _, rfl, z, a.C_Sizes, dx, _, rfl, upd_same, T.c_Sizes, T.n_Sizes__words, (by show 4 < 1000; decide), ?_⟩
      have s5 := s4.own (o := .ins a.C_Sizes dx ((szF p f b).take 5))
      refine ⟨_, rfl, z, a.C_Sizes, dx, _, _, rfl, upd_same, T.c_Sizes, T.n_Sizes__words, rfl, _, _, rfl, rfl, .inl ⟨by decide, by decide⟩, _, _, rfl, rfl, _, rfl, z, a.C_Sizes, dx, _, rfl, upd_same, T.c_Sizes, T.n_Sizes__frame_cells, (by show 5 < 1000; decide), ?_⟩
      have s6 := s5.own (o := .ins a.C_Sizes dx ((szF p f b).take 6))
      refine ⟨_, rfl, z, a.C_Sizes, dx, _, _, rfl, upd_same, T.c_Sizes, T.n_Sizes__frame_cells, rfl, _, rfl, _, _, rfl, rfl, .inl ⟨by decide, by decide⟩, _, _, rfl, rfl, _, rfl, z, a.C_Sizes, dx, _, rfl, upd_same, T.c_Sizes, T.n_Sizes__swap_blocks, (by show 6 < 1000; decide), ?_⟩
      have s7 := s6.own (o := .ins a.C_Sizes dx ((szF p f b).take 7))
      refine ⟨_, rfl, z, a.C_Sizes, dx, _, _, rfl, upd_same, T.c_Sizes, T.n_Sizes__swap_blocks, rfl, _, rfl, _, _, rfl, rfl, _, rfl, z, a.C_Sizes, dx, _, rfl, upd_same, T.c_Sizes, T.n_Sizes__file_blocks, (by show 7 < 1000; decide), ?_⟩
      exact yes k _ (s7.own (o := .ins a.C_Sizes dx (szF p f b))) upd_same

theorem ok_is_pair (T : Txt w K mg a) : FnOk P w K mg base CX0 3 a.f_is_pair a.d_is_pair ["value"] (spPair K) := by
  refine T.F_is_pair.ok sc_is_pair (fun vs H Q E h => ?_) (fun cdv A outer s H vs Q E hr h => ?_)
  · obtain ⟨v, d, rfl, _⟩ := h
    rfl
  · obtain ⟨v, d, rfl, hd, q⟩ := h
    refine ⟨_, (pss_cons (ps_if (pt_not (pt_val (pe_call (ok_is_tuple_of T) (hr.mono (by decide)) rfl T.m_is_tuple_of T.F_is_tuple_of.kp T.B_is_tuple_of .nil pass0 (pa_cons (pv 0) (pa_cons pe_int pa_nil))))) (pss_one (ps_ret pe_bl)) pss_nil)
    (pss_cons (ps_asg (pv 0) (pg_tup rfl (pgs_cons (pg_name (i := 1) sc_is_pair.nd rfl (Or.inl rfl)) (pgs_cons (pg_name (i := 2) sc_is_pair.nd rfl (Or.inl rfl)) pgs_nil))))
    (pss_one (ps_ret (pe_and (pe_call (ok_is_number_below T) (hr.mono (by decide)) rfl T.m_is_number_below T.F_is_number_below.kp T.B_is_number_below .nil pass0 (pa_cons (pv 1) (pa_cons (pe_con rfl T.k_SPACES) pa_nil))) (pe_one (pe_call (ok_is_number_below T) (hr.mono (by decide)) rfl T.m_is_number_below T.F_is_number_below.kp T.B_is_number_below .nil pass0 (pa_cons (pv 2) (pa_cons (pe_con rfl T.k_PAGES) pa_nil))))))))), ?_⟩
    refine ⟨_, rfl, v, d, 2, rfl, hd, _, rfl, ?_⟩
    cases e : tupD d 2 with
    | false =>
      rw [pair_no e] at q
      exact iteT q
    | true =>
      obtain ⟨x, y, rfl⟩ := tup2 e
      refine iteF ?_
      cases hd with
      | @tup p xs _ s1 q1 =>
        cases q1 with
        | @cons vx r _ _ dx q2 =>
          cases q2 with
          | @cons vy r _ _ dy q3 =>
            cases q3
            refine ⟨_, rfl, p, _, rfl, s1, rfl, _, _, rfl, _, _, rfl, rfl, ?_⟩
            refine ⟨_, rfl, _, x, 4, rfl, dx, _, rfl, ?_⟩
            have e2 : pairD (.tuple [x, y]) = (belowD x 4 && belowD y 8) := rfl
            rw [e2] at q
            cases e3 : belowD x 4 with
            | false =>
              rw [e3] at q
              exact iteF q
            | true =>
              rw [e3, Bool.true_and] at q
              exact iteT ⟨_, rfl, _, y, 8, rfl, dy, q⟩
theorem ok_is_letter (T : Txt w K mg a) : FnOk P w K mg base CX0 4 a.f_is_letter a.d_is_letter ["value"] (spLetter K) := by
  refine T.F_is_letter.ok sc_is_letter (fun vs H Q E h => ?_) (fun cdv A outer s H vs Q E hr h => ?_)
  · obtain ⟨v, d, rfl, _⟩ := h
    rfl
  · obtain ⟨v, d, rfl, hd, few, q⟩ := h
    refine ⟨_, (pss_cons (ps_if (pt_not (pt_val (pe_call (ok_is_tuple_of T) (hr.mono (by decide)) rfl T.m_is_tuple_of T.F_is_tuple_of.kp T.B_is_tuple_of .nil pass0 (pa_cons (pv 0) (pa_cons pe_int pa_nil))))) (pss_one (ps_ret pe_bl)) pss_nil)
    (pss_cons (ps_asg (pv 0) (pg_tup rfl (pgs_cons (pg_name (i := 1) sc_is_letter.nd rfl (Or.inl rfl)) (pgs_cons (pg_name (i := 2) sc_is_letter.nd rfl (Or.inl rfl)) pgs_nil))))
    (pss_cons (ps_if (PW.pt (pw_or (pt_not (pt_val (pe_call (ok_is_whole T) (hr.mono (by decide)) rfl T.m_is_whole T.F_is_whole.kp T.B_is_whole .nil pass0 (pa_cons (pv 1) pa_nil)))) (pw_or1 (pt_cmpR (op_lt) (pv 1) pe_int (nomark _))))) (pss_one (ps_ret pe_bl)) pss_nil)
    (pss_cons (ps_if (PW.pt (pw_or (pt_not (pt_val (pe_callB call_isi (by rfl) T.b_isinstance (by decide +kernel) (pa_cons (pv 2) (pa_cons (pe_bltn (v := .ty "tuple") rfl T.b_tuple (by decide +kernel) rfl) pa_nil))))) (pw_or1 (pt_cmpR (op_eq) (pe_callB call_len_seq (by rfl) T.b_len (by decide +kernel) (pa_cons (pv 2) pa_nil)) pe_int (nomark _))))) (pss_one (ps_ret pe_bl)) pss_nil)
    (pss_one (ps_ret (pe_callB (cr_all rfl) (by rfl) T.b_all (by decide +kernel) (pa_cons (pe_lc (own := [("pair", 3)]) (g := gName 3) (tt := tYes) rfl sc_is_letter.nd (pi_tup (pv 2)) (blkOk_by (own := [("pair", 3)]) (N := ["value", "ticket", "pairs", "pair"]) (sc := defScope s_is_letter) (by decide +kernel)) (fun _ _ _ _ _ => (pg_name (i := 3) sc_is_letter.nd rfl (Or.inl rfl))) (fun _ _ _ _ _ => pts_nil) (fun _ _ _ _ _ => (pe_call (ok_is_pair T) (hr.mono (by decide)) rfl T.m_is_pair T.F_is_pair.kp T.B_is_pair .nil pass0 (pa_cons (pv 3) pa_nil)))) pa_nil)))))))), ?_⟩
    refine ⟨_, rfl, v, d, 2, rfl, hd, _, rfl, ?_⟩
    cases e : tupD d 2 with
    | false =>
      rw [letter_no e] at q
      exact iteT (q H (Same.refl H))
    | true =>
      obtain ⟨x, y, rfl⟩ := tup2 e
      refine iteF ?_
      cases hd with
      | @tup p xs _ s1 q1 =>
        cases q1 with
        | @cons vx r _ _ dx q2 =>
          cases q2 with
          | @cons vy r _ _ dy q3 =>
            cases q3
            refine ⟨_, rfl, p, _, rfl, s1, rfl, _, _, rfl, _, _, rfl, rfl, ?_⟩
            have e2 : letterD (.tuple [x, y]) = (posD x && manyD y) := rfl
            rw [e2] at q
            refine ⟨_, rfl, _, x, rfl, dx, _, rfl, ?_⟩
            have noInt : wholeD x = false → posD x = false := by cases x <;> simp [wholeD, posD]
            cases e3 : wholeD x with
            | false =>
              rw [noInt e3] at q
              exact iteT (iteT (q H (Same.refl H)))
            | true =>
              cases x with
              | int i =>
                cases dx
                refine iteF ⟨_, rfl, _, _, rfl, rfl, _, rfl, ?_⟩
                refine ite2 (fun c => ?_) (fun c => ?_)
                · have e4 : posD (.int i) = false := by simp only [posD, c, Bool.not_true]
                  rw [e4] at q
                  exact q H (Same.refl H)
                · have e4 : posD (.int i) = true := by simp only [posD, Bool.eq_false_iff.mpr c, Bool.not_false]
                  rw [e4, Bool.true_and] at q
                  have ty := tyx dy
                  refine ⟨_, rfl, _, _, _, _, _, rfl, .ty _, ty, kit_tup y, _, rfl, ?_⟩
                  cases e5 : isTup y with
                  | false =>
                    have e6 : manyD y = false := by cases y <;> simp_all [isTup, manyD]
                    rw [e6] at q
                    exact iteT (iteT (q H (Same.refl H)))
                  | true =>
                    cases y with
                    | tuple ps =>
                      cases dy with
                      | @tup p2 xs2 _ s2 qs =>
                        refine iteF ⟨_, rfl, _, _, rfl, .inr s2, rfl, _, rfl, ?_⟩
                        have len := dpAll_len qs
                        have e6 : manyD (.tuple ps) = (!decide ((ps.length : Int) = 0) && ps.all pairD) := rfl
                        rw [e6] at q
                        refine ite2 (fun c2 => ?_) (fun c2 => ?_)
                        · have z : (ps.length : Int) = 0 := by
                            rw [← len]
                            simpa using c2
                          rw [decide_eq_true z] at q
                          exact q H (Same.refl H)
                        · have z : ¬ (ps.length : Int) = 0 := by
                            rw [← len]
                            simpa using c2
                          rw [decide_eq_false z, Bool.not_false, Bool.true_and] at q
                          have lim := few _ _ rfl
                          refine ⟨_, rfl, p2, rfl, ⟨_, s2⟩, fun D hD => lc_tup (K := K) (a := p2) (xs := xs2) (fun j H' => Same H H' ∧ H' D = some (.lst ((ps.take j).map fun d => V.bl (pairD d))))
                            ⟨Same.new hD, upd_same⟩ (fun j H' _ ⟨eS, _⟩ => Same.tupS eS s2) ?_ ?_⟩
                          · rintro j y H' hy ⟨eS, eD⟩
                            obtain ⟨dy, h1, h2⟩ := dpAll_get qs hy
                            refine ⟨rfl, _, rfl, _, dy, rfl, dp_mono eS h2, _, eD, ?_, Same.put eS hD, ?_⟩
                            · rw [List.length_map]
                              exact Nat.lt_of_le_of_lt (Nat.le_trans (by rw [List.length_take]; exact Nat.min_le_right _ _) lim) (by decide : 1000 < sizeLine)
                            · rw [upd_same, take_snoc h1, List.map_append]
                              rfl
                          · rintro H' ⟨eS, eD⟩
                            refine ⟨D, ps.map pairD, rfl, SqL.of ?_, ?_⟩
                            · rw [eD, len, List.take_length, List.map_map]
                              rfl
                            · have e7 : (ps.map pairD).all id = ps.all pairD := by
                                rw [List.all_map]
                                rfl
                              rw [e7]
                              exact q H' eS
                    | _ => simp [isTup] at e5
              | _ => simp [wholeD] at e3

theorem ok_Buffer_init (T : Txt w K mg a) : FnOk P w K mg base CX0 1 a.f_Buffer_init a.d_Buffer_init ["self"] (spBufInit a.C_Buffer) := by
  refine T.F_Buffer_init.ok sc_Buffer_init (fun vs H Q E h => ?_) (fun cdv A outer s H vs Q E hr h => ?_)
  · obtain ⟨x, dx, rfl, _⟩ := h
    rfl
  · obtain ⟨x, dx, rfl, hx, q⟩ := h
    refine ⟨_, (pss_one (ps_fld (pv 0) (pe_lst pa_nil) rfl)), ?_⟩
    refine ⟨Nat.zero_le _, fun l hl => ⟨_, rfl, x, a.C_Buffer, dx, [], rfl, (upd_ne (ne_of_none hx hl)).trans hx, T.c_Buffer, T.n_Buffer__entries, (by show 0 < 1000; decide), ?_⟩⟩
    have nlx : l ≠ x := (ne_of_none hx hl).symm
    exact q _ l (fun y o ny hy => (upd_ne ny).trans ((Same.new hl) _ _ hy)) hl ⟨upd_same, (upd_ne nlx).trans upd_same⟩
theorem ok_Buffer_entries (T : Txt w K mg a) : FnOk P w K mg base CX0 1 a.f_Buffer_entries a.d_Buffer_entries ["self"] (spEntries a.C_Buffer) := by
  refine T.F_Buffer_entries.ok sc_Buffer_entries (fun vs H Q E h => ?_) (fun cdv A outer s H vs Q E hr h => ?_)
  · obtain ⟨b, dx, l, zs, rfl, _⟩ := h
    rfl
  · obtain ⟨b, dx, l, zs, rfl, hB, q⟩ := h
    refine ⟨_, (pss_one (ps_ret (pe_callTy call_list_of (by rfl) T.b_list (by decide +kernel) (pa_cons (pe_fld (pv 0) rfl) pa_nil)))), ?_⟩
    exact ⟨_, rfl, b, a.C_Buffer, dx, _, _, rfl, hB.ins, T.c_Buffer, T.n_Buffer__entries, rfl, l, zs, rfl, .inl (SqL.of hB.lst), q⟩
theorem ok_Box_init (T : Txt w K mg a) : FnOk P w K mg base CX0 1 a.f_Box_init a.d_Box_init ["self"] (spBoxInit a.C_Box) := by
  refine T.F_Box_init.ok sc_Box_init (fun vs H Q E h => ?_) (fun cdv A outer s H vs Q E hr h => ?_)
  · obtain ⟨x, dx, rfl, _⟩ := h
    rfl
  · obtain ⟨x, dx, rfl, hx, q⟩ := h
    refine ⟨_, (pss_one (ps_fld (pv 0) (pe_lst pa_nil) rfl)), ?_⟩
    refine ⟨Nat.zero_le _, fun l hl => ⟨_, rfl, x, a.C_Box, dx, [], rfl, (upd_ne (ne_of_none hx hl)).trans hx, T.c_Box, T.n_Box__letters, (by show 0 < 1000; decide), ?_⟩⟩
    have nlx : l ≠ x := (ne_of_none hx hl).symm
    exact q _ l (fun y o ny hy => (upd_ne ny).trans ((Same.new hl) _ _ hy)) hl ⟨upd_same, (upd_ne nlx).trans upd_same⟩
theorem ok_Box_letters (T : Txt w K mg a) : FnOk P w K mg base CX0 1 a.f_Box_letters a.d_Box_letters ["self"] (spLetters a.C_Box) := by
  refine T.F_Box_letters.ok sc_Box_letters (fun vs H Q E h => ?_) (fun cdv A outer s H vs Q E hr h => ?_)
  · obtain ⟨b, dx, l, zs, rfl, _⟩ := h
    rfl
  · obtain ⟨b, dx, l, zs, rfl, hB, q⟩ := h
    refine ⟨_, (pss_one (ps_ret (pe_callTy call_list_of (by rfl) T.b_list (by decide +kernel) (pa_cons (pe_fld (pv 0) rfl) pa_nil)))), ?_⟩
    exact ⟨_, rfl, b, a.C_Box, dx, _, _, rfl, hB.ins, T.c_Box, T.n_Box__letters, rfl, l, zs, rfl, .inl (SqL.of hB.lst), q⟩
theorem ok_Sizes_cells (T : Txt w K mg a) : FnOk P w K mg base CX0 1 a.f_Sizes_cells a.d_Sizes_cells ["self"] (spCells a.C_Sizes) := by
  refine T.F_Sizes_cells.ok sc_Sizes_cells (fun vs H Q E h => ?_) (fun cdv A outer s H vs Q E hr h => ?_)
  · obtain ⟨z, dx, p, f, b, rfl, _⟩ := h
    rfl
  · obtain ⟨z, dx, p, f, b, rfl, hz, q⟩ := h
    refine ⟨_, (pss_one (ps_ret (pe_op op_add (pe_fld (pv 0) rfl) (pe_op op_mul (pe_con rfl T.k_FILES) (pe_con rfl T.k_FILE_PAGES))))), ?_⟩
    exact ⟨_, rfl, z, _, dx, _, _, rfl, hz, T.c_Sizes, T.n_Sizes__file_blocks, rfl, _, _, rfl, rfl, .inl ⟨by decide, by decide⟩, _, _, rfl, rfl, q⟩
theorem ok_first_values (T : Txt w K mg a) : FnOk P w K mg base CX0 1 a.f_first_values a.d_first_values ["sizes"] (spFirst a.C_Sizes) := by
  refine T.F_first_values.ok sc_first_values (fun vs H Q E h => ?_) (fun cdv A outer s H vs Q E hr h => ?_)
  · obtain ⟨z, dx, p, f, b, rfl, _⟩ := h
    rfl
  · obtain ⟨z, dx, p, f, b, rfl, hz, okS, q⟩ := h
    refine ⟨_, (pss_cons (ps_set (i := 1) sc_first_values.nd rfl (Or.inl rfl) (pe_op op_rep (pe_lst (pa_cons pe_int pa_nil)) (pe_op op_add pe_int (pe_fld (pv 0) rfl))))
    (pss_cons (ps_set (i := 2) sc_first_values.nd rfl (Or.inl rfl) (pe_op op_rep (pe_lst (pa_cons pe_non pa_nil)) (pe_op op_mul (pe_con rfl T.k_SPACES) (pe_con rfl T.k_PAGES))))
    (pss_cons (ps_set (i := 3) sc_first_values.nd rfl (Or.inl rfl) (pe_op op_rep (pe_lst (pa_cons pe_int pa_nil)) (pe_op op_mul (pe_con rfl T.k_CELLS) (pe_fld (pv 0) rfl))))
    (pss_cons (ps_set (i := 4) sc_first_values.nd rfl (Or.inl rfl) (pe_op op_rep (pe_lst (pa_cons (pe_tup (pa_cons pe_int (pa_cons pe_int pa_nil))) pa_nil)) (pe_op op_add (pe_fld (pv 0) rfl) (pe_op op_mul (pe_con rfl T.k_FILES) (pe_con rfl T.k_FILE_PAGES)))))
    (pss_one (ps_ret (pe_op op_cat (pe_op op_cat (pe_op op_cat (pv 1) (pv 2)) (pv 3)) (pv 4)))))))), ?_⟩
    obtain ⟨⟨p0, p1⟩, ⟨f0, f1⟩, ⟨b0, b1⟩⟩ := okSz_at okS
    have small : ∀ n : Nat, n ≤ 1000 → n ≤ sizeLine := fun n h => Nat.le_trans h (by decide)
    refine ⟨(by show 1 ≤ sizeLine; decide), fun l1 h1 => ?_⟩
    have e1 := Same.new (o := .lst [.int 0]) h1
    refine ⟨_, rfl, z, _, dx, _, _, rfl, e1 _ _ hz, T.c_Sizes, T.n_Sizes_processors, rfl, _, _, rfl, rfl, l1, _, _, rfl, rfl, upd_same, by omega, by omega, small _ (by simp; omega), fun l2 h2 => ?_⟩
    have hz2 := (Same.new (o := .lst (List.replicate (1 + p).toNat [V.int 0]).flatten) h2) _ _ (e1 _ _ hz)
    have hl2 : upd (upd H l1 (.lst [.int 0])) l2 (.lst (List.replicate (1 + p).toNat [V.int 0]).flatten) l2 = some (.lst (List.replicate (1 + p).toNat (V.int 0))) := by rw [upd_same, List.flatten_replicate_singleton]
    have s2 := e1.trans (Same.new (o := .lst (List.replicate (1 + p).toNat [V.int 0]).flatten) h2)
    generalize upd (upd H l1 (.lst [.int 0])) l2 (.lst (List.replicate (1 + p).toNat [V.int 0]).flatten) = H2 at hz2 hl2 s2 ⊢
    refine ⟨(by show 1 ≤ sizeLine; decide), fun l3 h3 => ?_⟩
    have e3 := Same.new (o := .lst [.non]) h3
    refine ⟨_, _, rfl, rfl, .inl ⟨by decide, by decide⟩, l3, _, _, rfl, rfl, upd_same, by decide, by decide, small _ (by simp), fun l4 h4 => ?_⟩
    have e4 := Same.new (o := .lst (List.replicate (4 * 8 : Int).toNat [V.non]).flatten) h4
    have hl4 : upd (upd H2 l3 (.lst [.non])) l4 (.lst (List.replicate (4 * 8 : Int).toNat [V.non]).flatten) l4 = some (.lst (List.replicate 32 V.non)) := by rw [upd_same, List.flatten_replicate_singleton]; rfl
    have s4 := s2.trans (e3.trans e4)
    have hz4 := (e3.trans e4) _ _ hz2
    have hl24 := (e3.trans e4) _ _ hl2
    generalize upd (upd H2 l3 (.lst [.non])) l4 (.lst (List.replicate (4 * 8 : Int).toNat [V.non]).flatten) = H4 at s4 hz4 hl4 hl24 ⊢
    refine ⟨(by show 1 ≤ sizeLine; decide), fun l5 h5 => ?_⟩
    have e5 := Same.new (o := .lst [.int 0]) h5
    refine ⟨_, rfl, z, _, dx, _, _, rfl, e5 _ _ hz4, T.c_Sizes, T.n_Sizes_frames, rfl, _, _, rfl, rfl, .inl ⟨by decide, by decide⟩, l5, _, _, rfl, rfl, upd_same, by omega, by omega, small _ (by simp; omega), fun l6 h6 => ?_⟩
    have e6 := Same.new (o := .lst (List.replicate (2 * f).toNat [V.int 0]).flatten) h6
    have hl6 : upd (upd H4 l5 (.lst [.int 0])) l6 (.lst (List.replicate (2 * f).toNat [V.int 0]).flatten) l6 = some (.lst (List.replicate (2 * f).toNat (V.int 0))) := by rw [upd_same, List.flatten_replicate_singleton]
    have s6 := s4.trans (e5.trans e6)
    have hz6 := (e5.trans e6) _ _ hz4
    have hl26 := (e5.trans e6) _ _ hl24
    have hl46 := (e5.trans e6) _ _ hl4
    generalize upd (upd H4 l5 (.lst [.int 0])) l6 (.lst (List.replicate (2 * f).toNat [V.int 0]).flatten) = H6 at s6 hz6 hl6 hl26 hl46 ⊢
    refine ⟨(by show 2 ≤ sizeLine; decide), fun t ht => ⟨(by show 1 ≤ sizeLine; decide), fun l7 h7 => ?_⟩⟩
    have e7 := (Same.new (o := .tup [.int 0, .int 0]) ht).trans (Same.new (o := .lst [.ref t]) h7)
    have ht7 : upd (upd H6 t (.tup [.int 0, .int 0])) l7 (.lst [.ref t]) t = some (.tup [.int 0, .int 0]) := (Same.new h7) _ _ upd_same
    refine ⟨_, rfl, z, _, dx, _, _, rfl, e7 _ _ hz6, T.c_Sizes, T.n_Sizes_blocks, rfl, _, _, rfl, rfl, .inl ⟨by decide, by decide⟩, _, _, rfl, rfl, l7, _, _, rfl, rfl, upd_same, by omega, by omega, small _ (by simp; omega), fun l8 h8 => ?_⟩
    have e8 := Same.new (o := .lst (List.replicate (b + 2 * 4).toNat [V.ref t]).flatten) h8
    have hl8 : upd (upd (upd H6 t (.tup [.int 0, .int 0])) l7 (.lst [.ref t])) l8 (.lst (List.replicate (b + 2 * 4).toNat [V.ref t]).flatten) l8 = some (.lst (List.replicate (b + 8).toNat (V.ref t))) := by rw [upd_same, List.flatten_replicate_singleton]; rfl
    have s8 := s6.trans (e7.trans e8)
    have hl28 := (e7.trans e8) _ _ hl26
    have hl48 := (e7.trans e8) _ _ hl46
    have hl68 := (e7.trans e8) _ _ hl6
    have ht8 := e8 _ _ ht7
    generalize upd (upd (upd H6 t (.tup [.int 0, .int 0])) l7 (.lst [.ref t])) l8 (.lst (List.replicate (b + 2 * 4).toNat [V.ref t]).flatten) = H8 at s8 hl8 hl28 hl48 hl68 ht8 ⊢
    refine ⟨_, rfl, _, rfl, l2, l4, _, _, rfl, rfl, hl28, hl48, small _ (by simp; omega), fun l9 h9 => ?_⟩
    have e9 := Same.new (o := .lst (List.replicate (1 + p).toNat (V.int 0) ++ List.replicate 32 V.non)) h9
    refine ⟨_, rfl, l9, l6, _, _, rfl, rfl, upd_same, e9 _ _ hl68, small _ (by simp; omega), fun l10 h10 => ?_⟩
    have e10 := Same.new (o := .lst (List.replicate (1 + p).toNat (V.int 0) ++ List.replicate 32 V.non ++ List.replicate (2 * f).toNat (V.int 0))) h10
    refine ⟨_, rfl, l10, l8, _, _, rfl, rfl, upd_same, e10 _ _ (e9 _ _ hl8), small _ (by simp; omega), fun l11 h11 => ?_⟩
    have e11 := Same.new (o := .lst (firstV p f b t)) h11
    exact q _ t l11 ((s8.trans e9).trans (e10.trans e11)) ((s8.trans (e9.trans e10)).free h11) (e11 _ _ (e10 _ _ (e9 _ _ ht8))) upd_same
theorem ok_Memory_peek (T : Txt w K mg a) : FnOk P w K mg base (L2.CX P w) 4 a.f_Memory_peek a.d_Memory_peek ["self", "cell"] (spPeek K ⟨a.C_Memory, a.C_Sizes, a.C_Buffer, a.C_Box⟩ a.C_NotValid) := by
  refine T.F_Memory_peek.okX sc_Memory_peek (fun vs H Q E h => ?_) (fun cdv A outer s H vs Q E hr h => ?_)
  · obtain ⟨x, st, c, rfl, _⟩ := h
    rfl
  · obtain ⟨x, st, c, rfl, hM, yes, no⟩ := h
    refine ⟨_, (pss_cons (ps_if (pt_not (pt_val (pe_call (ok_is_number_below T) (hr.mono (by decide)) rfl T.m_is_number_below T.F_is_number_below.kp T.B_is_number_below .nil pass0 (pa_cons (pv 1) (pa_cons (pe_meth0 (pe_fld (pv 0) rfl) T.c_Sizes T.M_Sizes_cells (ok_Sizes_cells T) (hr.mono (by decide)) T.B_Sizes_cells .nil pass0) pa_nil))))) (pss_one (ps_raise rfl (takes_of rfl rfl rfl rfl) (mk_exc0 T.x_NotValid T.xi_NotValid T.xt_NotValid (ok_PageError_init T) (hr.mono (by decide)) T.B_PageError_init pass0 rfl T.m_NotValid))) pss_nil)
    (pss_one (ps_ret (pe_ix ix_list (pe_fld (pv 0) rfl) (pv 1) (fun _ _ => rfl))))), ?_⟩
    obtain ⟨vs, hc, hd⟩ := hM.cells
    refine ⟨_, rfl, _, rfl, x.m, _, x.dx, _, _, rfl, hM.ins, T.c_Memory, T.n_Memory_sizes, rfl, x.z, x.dz, _, rfl, hM.sz, rfl, x.z, x.dz, x.p, x.f, x.b, rfl, hM.sz, _, .int c, _, rfl, .int c, _, rfl, ?_⟩
    by_cases k : 0 ≤ c ∧ c < cellsN x.p x.f x.b
    · have e : belowD (.int c) (cellsN x.p x.f x.b) = true := by simp only [belowD, decide_eq_true k.1, decide_eq_true k.2, Bool.and_self]
      rw [e]
      obtain ⟨j, ej⟩ : ∃ j : Nat, c = (j : Int) := ⟨c.toNat, by omega⟩
      subst ej
      have lc := hM.lenC
      have lv := dpAll_len hd
      have hj : j < vs.length := by omega
      obtain ⟨d, h1, h2⟩ := dpAll_get hd (List.getElem?_eq_getElem hj)
      exact iteF ⟨_, rfl, x.m, _, x.dx, _, _, rfl, hM.ins, T.c_Memory, T.n_Memory__cells, rfl, _, rfl, x.cl, _, _, _, rfl, rfl, SqL.of hc, at_nat (List.getElem?_eq_getElem hj), yes j rfl _ d h1 h2⟩
    · have e : belowD (.int c) (cellsN x.p x.f x.b) = false := by
        simp only [belowD, Bool.and_eq_false_iff, decide_eq_false_iff_not]
        by_cases z : 0 ≤ c
        · exact .inr fun k2 => k ⟨z, k2⟩
        · exact .inl z
      rw [e]
      refine iteT fun y hy => ⟨y, a.C_NotValid, rfl, T.x_NotValid, upd_same, rfl, upd_same, ?_⟩
      refine no k _ fun b2 u h2 => ?_
      have ne := ne_of_none h2 hy
      rw [del_ne ne, upd_ne ne]
      exact h2

theorem ok_Memory_log (T : Txt w K mg a) : FnOk P w K mg base CX0 1 a.f_Memory_log a.d_Memory_log ["self"] (spLog K ⟨a.C_Memory, a.C_Sizes, a.C_Buffer, a.C_Box⟩) := by
  refine T.F_Memory_log.ok sc_Memory_log (fun vs H Q E h => ?_) (fun cdv A outer s H vs Q E hr h => ?_)
  · obtain ⟨x, st, rfl, _⟩ := h
    rfl
  · obtain ⟨x, st, rfl, hM, q⟩ := h
    refine ⟨_, (pss_one (ps_ret (pe_callTy call_list_of (by rfl) T.b_list (by decide +kernel) (pa_cons (pe_fld (pv 0) rfl) pa_nil)))), ?_⟩
    obtain ⟨vs, hl, hd⟩ := hM.log
    exact ⟨_, rfl, x.m, _, x.dx, _, _, rfl, hM.ins, T.c_Memory, T.n_Memory__log, rfl, x.lg, vs, rfl, .inl (SqL.of hl), fun p hp => q vs p hp hd⟩

theorem ok_Memory_init (T : Txt w K mg a) : FnOk P w K mg base CX0 3 a.f_Memory_init a.d_Memory_init ["self", "sizes"] (spMemInit K ⟨a.C_Memory, a.C_Sizes, a.C_Buffer, a.C_Box⟩) := by
  refine T.F_Memory_init.ok sc_Memory_init (fun vs H Q E h => ?_) (fun cdv A outer s H vs Q E hr h => ?_)
  · obtain ⟨m, dx, z, dz, p, f, b, rfl, _⟩ := h
    rfl
  · obtain ⟨m, dx, z, dz, p, f, b, rfl, hm, hz, okS, q⟩ := h
    refine ⟨_, (pss_cons (ps_fld (pv 0) (pv 1) rfl)
    (pss_cons (ps_fld (pv 0) pe_int rfl)
    (pss_cons (ps_fld (pv 0) (pe_lc (own := [("_", 2)]) (g := gName 2) (tt := tYes) rfl sc_Memory_init.nd (pi_range1 rfl T.b_range (pa_cons (pe_fld (pv 1) rfl) pa_nil)) (blkOk_by (own := [("_", 2)]) (N := ["self", "sizes", "_"]) (sc := defScope s_Memory_init) (by decide +kernel)) (fun _ _ _ _ _ => (pg_name (i := 2) sc_Memory_init.nd rfl (Or.inl rfl))) (fun _ _ _ _ _ => pts_nil) (fun _ _ _ _ _ => (pe_make0 T.mk_Buffer (ok_Buffer_init T) (hr.mono (by decide)) rfl T.m_Buffer T.B_Buffer_init .nil pass0))) rfl)
    (pss_cons (ps_fld (pv 0) (pe_lc (own := [("_", 2)]) (g := gName 2) (tt := tYes) rfl sc_Memory_init.nd (pi_range1 rfl T.b_range (pa_cons (pe_fld (pv 1) rfl) pa_nil)) (blkOk_by (own := [("_", 2)]) (N := ["self", "sizes", "_"]) (sc := defScope s_Memory_init) (by decide +kernel)) (fun _ _ _ _ _ => (pg_name (i := 2) sc_Memory_init.nd rfl (Or.inl rfl))) (fun _ _ _ _ _ => pts_nil) (fun _ _ _ _ _ => (pe_make0 T.mk_Box (ok_Box_init T) (hr.mono (by decide)) rfl T.m_Box T.B_Box_init .nil pass0))) rfl)
    (pss_cons (ps_fld (pv 0) (pe_call (ok_first_values T) (hr.mono (by decide)) rfl T.m_first_values T.F_first_values.kp T.B_first_values .nil pass0 (pa_cons (pv 1) pa_nil)) rfl)
    (pss_one (ps_fld (pv 0) (pe_lst pa_nil) rfl))))))), ?_⟩
    obtain ⟨⟨p0, p1⟩, _, _⟩ := okSz_at okS
    have nzm : z ≠ m := fun e => by
      rw [e, hm] at hz
      injection hz with hz
      injection hz with _ _ hz
      cases hz
    refine ⟨_, rfl, _, rfl, m, a.C_Memory, dx, _, rfl, hm, T.c_Memory, T.n_Memory_sizes, (by show 0 < 1000; decide), ?_⟩
    refine ⟨_, rfl, m, a.C_Memory, dx, _, rfl, upd_same, T.c_Memory, T.n_Memory_count, (by show 1 < 1000; decide), ?_⟩
    have g2 : ∃ H2, H2 = upd (upd H m (.ins a.C_Memory dx [("sizes", .ref z)])) m (.ins a.C_Memory dx [("sizes", .ref z), ("count", .int 0)]) := ⟨_, rfl⟩
    obtain ⟨H2, e2⟩ := g2
    change tSeq _ _ _ _ (upd (upd H m (.ins a.C_Memory dx [("sizes", .ref z)])) m (.ins a.C_Memory dx [("sizes", .ref z), ("count", .int 0)]))
    rw [← e2]
    have hm2 : H2 m = some (.ins a.C_Memory dx [("sizes", .ref z), ("count", .int 0)]) := by rw [e2]; exact upd_same
    have sb2 : SameBut m H H2 := by
      rw [e2]
      exact fun x o nx hx => (upd_ne nx).trans ((upd_ne nx).trans hx)
    have fr2 : ∀ {x : Addr}, H2 x = none → H x = none := fun {x} hx => by
      cases e : H x with
      | none => rfl
      | some u =>
        by_cases xm : x = m
        · rw [xm, hm2] at hx
          cases hx
        · rw [sb2 _ _ xm e] at hx
          cases hx
    have hz2 := sb2 _ _ nzm hz
    clear e2
    -- buffers
    refine ⟨_, rfl, z, _, dz, _, _, rfl, hz2, T.c_Sizes, T.n_Sizes_processors, rfl, _, rfl, by omega, by omega, fun D hD => ?_⟩
    refine lc_range (lo := 0) (n := p.toNat) (fun i H' => ∃ bs : List (Addr × Addr), H' D = some (.lst (bs.map fun y => V.ref y.1)) ∧ Same H2 H' ∧ bs.length = i ∧ (bs.map fun y => y.1).Nodup ∧ i ≤ 3 ∧ ∀ y ∈ bs, H2 y.1 = none ∧ ∃ l, l ≠ D ∧ BufAt a.C_Buffer H' y.1 y.2 l [])
      ⟨[], upd_same, Same.new hD, rfl, List.nodup_nil, Nat.zero_le _, fun _ h => absurd h List.not_mem_nil⟩ ?_ ?_
    · rintro i H' hi ⟨bs, hDD, eS, el, nd, i3, hb⟩
      refine ⟨rfl, fun x dx nx ndx nxd => ⟨x, dx, rfl, upd_same, fun H3 l s3 fl hB => ⟨rfl, bs.map (fun y => V.ref y.1), ?_, ?_, bs ++ [(x, dx)], ?_, ?_, ?_, ?_, by omega, ?_⟩⟩⟩
      all_goals
        have old : ∀ {c : Addr} {u : HO}, H' c = some u → H3 c = some u := fun {c u} h => by
          have n1 : c ≠ x := ne_of_none h nx
          have n2 : c ≠ dx := ne_of_none h ndx
          exact s3 _ _ n1 (by rw [upd_ne n1, upd_ne n2]; exact h)
      · exact old hDD
      · rw [List.length_map, el]
        exact Nat.lt_of_le_of_lt i3 (by decide)
      · rw [upd_same, List.map_append]
        rfl
      · exact fun c u h => by
          have h1 := eS _ _ h
          have nD : c ≠ D := ne_of_none h hD
          rw [upd_ne nD]
          exact old h1
      · rw [List.length_append, List.length_singleton, el]
      · rw [List.map_append]
        refine List.nodup_append.mpr ⟨nd, by simp, fun c hc y hy => ?_⟩
        simp at hy
        subst hy
        obtain ⟨u, hu, rfl⟩ := List.mem_map.mp hc
        obtain ⟨_, l2, _, h2⟩ := hb u hu
        exact ne_of_none h2.ins nx
      · intro y hy
        rcases List.mem_append.mp hy with hy | hy
        · obtain ⟨h1, l2, n2, h2⟩ := hb y hy
          refine ⟨h1, l2, n2, ?_, ?_⟩
          · rw [upd_ne (ne_of h2.ins hDD (fun z => nomatch z))]
            exact old h2.ins
          · rw [upd_ne n2]
            exact old h2.lst
        · rw [List.mem_singleton.mp hy]
          have nxD : x ≠ D := fun z => by rw [z, hDD] at nx; cases nx
          have nlD : l ≠ D := fun z => by
            have nDx : D ≠ x := Ne.symm nxD
            have nDd : D ≠ dx := fun z => by rw [← z, hDD] at ndx; cases ndx
            rw [z, upd_ne nDx, upd_ne nDd, hDD] at fl
            cases fl
          exact ⟨eS.free nx, l, nlD, ⟨(upd_ne nxD).trans hB.ins, (upd_ne nlD).trans hB.lst⟩⟩
    rintro H3 ⟨bs, hDD, eS, el, nd, i3, hb⟩
    have nDm : D ≠ m := fun e => by rw [e, hm2] at hD; cases hD
    refine ⟨_, rfl, m, a.C_Memory, dx, _, rfl, eS _ _ hm2, T.c_Memory, T.n_Memory_buffers, (by show 2 < 1000; decide), ?_⟩
    obtain ⟨H4, e4⟩ : ∃ H4, H4 = upd H3 m (.ins a.C_Memory dx [("sizes", .ref z), ("count", .int 0), ("buffers", .ref D)]) := ⟨_, rfl⟩
    change tSeq _ _ _ _ (upd H3 m (.ins a.C_Memory dx [("sizes", .ref z), ("count", .int 0), ("buffers", .ref D)]))
    rw [← e4]
    have hm4 : H4 m = some (.ins a.C_Memory dx [("sizes", .ref z), ("count", .int 0), ("buffers", .ref D)]) := by rw [e4]; exact upd_same
    have sb4 : SameBut m H2 H4 := by
      rw [e4]
      exact fun x o nx hx => (upd_ne nx).trans (eS _ _ hx)
    have hD4 : H4 D = some (.lst (bs.map fun y => V.ref y.1)) := by rw [e4, upd_ne nDm]; exact hDD
    have hb4 : ∀ y ∈ bs, H2 y.1 = none ∧ y.1 ≠ m ∧ ∃ l, l ≠ D ∧ BufAt a.C_Buffer H4 y.1 y.2 l [] := fun y hy => by
      obtain ⟨h1, l, h2, h3⟩ := hb y hy
      have n1 : y.1 ≠ m := fun e => by rw [e, hm2] at h1; cases h1
      have n2 : l ≠ m := ne_of h3.lst (eS _ _ hm2) (fun z => nomatch z)
      exact ⟨h1, n1, l, h2, ⟨by rw [e4, upd_ne n1]; exact h3.ins, by rw [e4, upd_ne n2]; exact h3.lst⟩⟩
    have hz4 := sb4 _ _ nzm hz2
    have fr4 : ∀ {x : Addr}, H4 x = none → H2 x = none := fun {x} hx => by
      cases e : H2 x with
      | none => rfl
      | some u =>
        by_cases xm : x = m
        · rw [xm, hm4] at hx
          cases hx
        · rw [sb4 _ _ xm e] at hx
          cases hx
    clear e4 hb hDD eS
    -- boxes
    refine ⟨_, rfl, z, _, dz, _, _, rfl, hz4, T.c_Sizes, T.n_Sizes_processors, rfl, _, rfl, by omega, by omega, fun D2 hD2 => ?_⟩
    refine lc_range (lo := 0) (n := p.toNat) (fun i H' => ∃ xs : List (Addr × Addr × Addr), H' D2 = some (.lst (xs.map fun y => V.ref y.1)) ∧ Same H4 H' ∧ xs.length = i ∧ (xs.map fun y => y.2.2).Nodup ∧ i ≤ 3 ∧ ∀ y ∈ xs, H4 y.2.2 = none ∧ y.2.2 ≠ D2 ∧ BoxAt a.C_Box H' y.1 y.2.1 y.2.2 [])
      ⟨[], upd_same, Same.new hD2, rfl, List.nodup_nil, Nat.zero_le _, fun _ h => absurd h List.not_mem_nil⟩ ?_ ?_
    · rintro i H' hi ⟨xs, hDD, eS, el2, nd2, i32, hb⟩
      refine ⟨rfl, fun x dx nx ndx nxd => ⟨x, dx, rfl, upd_same, fun H3 l s3 fl hB => ⟨rfl, xs.map (fun y => V.ref y.1), ?_, ?_, xs ++ [(x, dx, l)], ?_, ?_, ?_, ?_, by omega, ?_⟩⟩⟩
      all_goals
        have old : ∀ {c : Addr} {u : HO}, H' c = some u → H3 c = some u := fun {c u} h => by
          have n1 : c ≠ x := ne_of_none h nx
          have n2 : c ≠ dx := ne_of_none h ndx
          exact s3 _ _ n1 (by rw [upd_ne n1, upd_ne n2]; exact h)
      all_goals
        have nlx : l ≠ x := fun z => by rw [z, upd_same] at fl; cases fl
      all_goals
        have nldx : l ≠ dx := fun z => by rw [z, upd_ne nxd, upd_same] at fl; cases fl
      all_goals
        have flH : H' l = none := by rw [upd_ne nlx, upd_ne nldx] at fl; exact fl
      · exact old hDD
      · rw [List.length_map, el2]
        exact Nat.lt_of_le_of_lt i32 (by decide)
      · rw [upd_same, List.map_append]
        rfl
      · exact fun c u h => by
          have h1 := eS _ _ h
          have nD : c ≠ D2 := ne_of_none h hD2
          rw [upd_ne nD]
          exact old h1
      · rw [List.length_append, List.length_singleton, el2]
      · rw [List.map_append]
        refine List.nodup_append.mpr ⟨nd2, by simp, fun c hc y hy => ?_⟩
        simp at hy
        subst hy
        obtain ⟨u, hu, rfl⟩ := List.mem_map.mp hc
        obtain ⟨_, _, h2⟩ := hb u hu
        exact ne_of_none h2.lst flH
      · intro y hy
        rcases List.mem_append.mp hy with hy | hy
        · obtain ⟨h1, n2, h2⟩ := hb y hy
          refine ⟨h1, n2, ?_, ?_⟩
          · rw [upd_ne (ne_of h2.ins hDD (fun z => nomatch z))]
            exact old h2.ins
          · rw [upd_ne n2]
            exact old h2.lst
        · rw [List.mem_singleton.mp hy]
          have nxD : x ≠ D2 := fun z => by rw [z, hDD] at nx; cases nx
          have nlD : l ≠ D2 := fun z => by rw [z, hDD] at flH; cases flH
          exact ⟨eS.free flH, nlD, ⟨(upd_ne nxD).trans hB.ins, (upd_ne nlD).trans hB.lst⟩⟩
    rintro H5 ⟨xs, hDD2, eS5, el2, nd2, i32, hx5⟩
    have nDm2 : D2 ≠ m := fun e => by rw [e, hm4] at hD2; cases hD2
    have nDD : D ≠ D2 := fun e => by rw [← e, hD4] at hD2; cases hD2
    refine ⟨_, rfl, m, a.C_Memory, dx, _, rfl, eS5 _ _ hm4, T.c_Memory, T.n_Memory_boxes, (by show 3 < 1000; decide), ?_⟩
    obtain ⟨H6, e6⟩ : ∃ H6, H6 = upd H5 m (.ins a.C_Memory dx [("sizes", .ref z), ("count", .int 0), ("buffers", .ref D), ("boxes", .ref D2)]) := ⟨_, rfl⟩
    change tSeq _ _ _ _ (upd H5 m (.ins a.C_Memory dx [("sizes", .ref z), ("count", .int 0), ("buffers", .ref D), ("boxes", .ref D2)]))
    rw [← e6]
    have hm6 : H6 m = some (.ins a.C_Memory dx [("sizes", .ref z), ("count", .int 0), ("buffers", .ref D), ("boxes", .ref D2)]) := by rw [e6]; exact upd_same
    have sb6 : SameBut m H4 H6 := by
      rw [e6]
      exact fun x o nx hx => (upd_ne nx).trans (eS5 _ _ hx)
    have hD6 : H6 D = some (.lst (bs.map fun y => V.ref y.1)) := sb6 _ _ nDm hD4
    have hD26 : H6 D2 = some (.lst (xs.map fun y => V.ref y.1)) := by rw [e6, upd_ne nDm2]; exact hDD2
    have hb6 : ∀ y ∈ bs, H2 y.1 = none ∧ y.1 ≠ m ∧ ∃ l, (∃ vs, H4 l = some (.lst vs)) ∧ BufAt a.C_Buffer H6 y.1 y.2 l [] := fun y hy => by
      obtain ⟨h1, n1, l, h2, h3⟩ := hb4 y hy
      have n2 : l ≠ m := ne_of h3.lst hm4 (fun z => nomatch z)
      exact ⟨h1, n1, l, ⟨_, h3.lst⟩, ⟨sb6 _ _ n1 h3.ins, sb6 _ _ n2 h3.lst⟩⟩
    have hx6 : ∀ y ∈ xs, H4 y.2.2 = none ∧ y.2.2 ≠ D2 ∧ BoxAt a.C_Box H6 y.1 y.2.1 y.2.2 [] := fun y hy => by
      obtain ⟨h1, h2, h3⟩ := hx5 y hy
      have n1 : y.1 ≠ m := fun e => by
        have h4 := h3.ins
        rw [e, eS5 _ _ hm4] at h4
        injection h4 with h4
        injection h4 with _ _ h4
        injection h4 with h4 h5
        cases h5
      have n2 : y.2.2 ≠ m := ne_of h3.lst (eS5 _ _ hm4) (fun z => nomatch z)
      exact ⟨h1, h2, ⟨by rw [e6, upd_ne n1]; exact h3.ins, by rw [e6, upd_ne n2]; exact h3.lst⟩⟩
    have hz6 := sb6 _ _ nzm hz4
    have fr6 : ∀ {x : Addr}, H6 x = none → H4 x = none := fun {x} hx => by
      cases e : H4 x with
      | none => rfl
      | some u =>
        by_cases xm : x = m
        · rw [xm, hm6] at hx
          cases hx
        · rw [sb6 _ _ xm e] at hx
          cases hx
    clear e6 hx5 hDD2 eS5 hb4
    -- cells
    refine ⟨_, rfl, z, dz, p, f, b, rfl, hz6, okS, fun H7 t cl e7 fcl ht7 hcl => ?_⟩
    have nclm : cl ≠ m := fun e => by rw [e, hm6] at fcl; cases fcl
    refine ⟨_, rfl, m, a.C_Memory, dx, _, rfl, e7 _ _ hm6, T.c_Memory, T.n_Memory__cells, (by show 4 < 1000; decide), ?_⟩
    have hm8 : upd H7 m (.ins a.C_Memory dx [("sizes", .ref z), ("count", .int 0), ("buffers", .ref D), ("boxes", .ref D2), ("_cells", .ref cl)]) m = some (.ins a.C_Memory dx [("sizes", .ref z), ("count", .int 0), ("buffers", .ref D), ("boxes", .ref D2), ("_cells", .ref cl)]) := upd_same
    refine ⟨Nat.zero_le _, fun lg hlg => ?_⟩
    change upd H7 m (.ins a.C_Memory dx [("sizes", .ref z), ("count", .int 0), ("buffers", .ref D), ("boxes", .ref D2), ("_cells", .ref cl)]) lg = none at hlg
    have nlgm : m ≠ lg := ne_of_none hm8 hlg
    have hlg7 : H7 lg = none := (upd_ne (Ne.symm nlgm)).symm.trans hlg
    refine ⟨_, rfl, m, a.C_Memory, dx, _, rfl, (upd_ne nlgm).trans hm8, T.c_Memory, T.n_Memory__log, (by show 5 < 1000; decide), ?_⟩
    have keep : ∀ {c : Addr} {u : HO}, c ≠ m → H6 c = some u → upd (upd (upd H7 m (.ins a.C_Memory dx [("sizes", .ref z), ("count", .int 0), ("buffers", .ref D), ("boxes", .ref D2), ("_cells", .ref cl)])) lg (.lst [])) m
        (.ins a.C_Memory dx [("sizes", .ref z), ("count", .int 0), ("buffers", .ref D), ("boxes", .ref D2), ("_cells", .ref cl), ("_log", .ref lg)]) c = some u := fun {c u} nc h => by
      have h7 := e7 _ _ h
      rw [upd_ne nc, upd_ne (ne_of_none h7 hlg7), upd_ne nc]
      exact h7
    have lD : D ≠ m := nDm
    have ncl : H6 cl = none := fcl
    have nlg6 : H6 lg = none := e7.free hlg7
    have nTm : t ≠ m := fun e => by
      have := e7 _ _ hm6
      rw [← e, ht7] at this
      cases this
    have nclg : cl ≠ lg := fun e => by rw [← e, hcl] at hlg7; cases hlg7
    have ntlg : t ≠ lg := fun e => by rw [← e, ht7] at hlg7; cases hlg7
    have tT : upd (upd (upd H7 m (.ins a.C_Memory dx [("sizes", .ref z), ("count", .int 0), ("buffers", .ref D), ("boxes", .ref D2), ("_cells", .ref cl)])) lg (.lst [])) m
        (.ins a.C_Memory dx [("sizes", .ref z), ("count", .int 0), ("buffers", .ref D), ("boxes", .ref D2), ("_cells", .ref cl), ("_log", .ref lg)]) t = some (.tup [.int 0, .int 0]) := by
      rw [upd_ne nTm, upd_ne ntlg, upd_ne nTm]
      exact ht7
    have clL : upd (upd (upd H7 m (.ins a.C_Memory dx [("sizes", .ref z), ("count", .int 0), ("buffers", .ref D), ("boxes", .ref D2), ("_cells", .ref cl)])) lg (.lst [])) m
        (.ins a.C_Memory dx [("sizes", .ref z), ("count", .int 0), ("buffers", .ref D), ("boxes", .ref D2), ("_cells", .ref cl), ("_log", .ref lg)]) cl = some (.lst (firstV p f b t)) := by
      rw [upd_ne nclm, upd_ne nclg, upd_ne nclm]
      exact hcl
    have pn : p.toNat = bs.length := el.symm
    have pn2 : p.toNat = xs.length := el2.symm
    refine q _ ⟨m, dx, z, dz, D, D2, cl, lg, p, f, b, bs, xs⟩ rfl rfl rfl rfl rfl rfl rfl (fun c u nc h => keep nc (sb6 _ _ nc (sb4 _ _ nc (sb2 _ _ nc h)))) ?_ ?_
    · intro c hc
      rcases List.mem_cons.mp hc with e | hc
      · rw [e]; exact fr2 hD
      rcases List.mem_cons.mp hc with e | hc
      · rw [e]; exact fr2 (fr4 hD2)
      rcases List.mem_cons.mp hc with e | hc
      · rw [e]; exact fr2 (fr4 (fr6 fcl))
      rcases List.mem_cons.mp hc with e | hc
      · rw [e]; exact fr2 (fr4 (fr6 nlg6))
      rcases List.mem_append.mp hc with hc | hc
      · obtain ⟨y, hy, rfl⟩ := List.mem_map.mp hc
        exact fr2 (hb6 y hy).1
      · obtain ⟨y, hy, rfl⟩ := List.mem_map.mp hc
        exact fr2 (fr4 (hx6 y hy).1)
    · exact {
        ins := upd_same
        sz := keep nzm hz6
        okS := okS
        bl := keep nDm hD6
        xl := keep nDm2 hD26
        cells := ⟨_, clL, first_dp p f b tT⟩
        log := ⟨[], by rw [upd_ne (Ne.symm nlgm)]; exact upd_same, .nil⟩
        buf := fun i y es h1 h2 => by
          have ee : es = [] := List.eq_of_mem_replicate (mem_of_get h2)
          subst ee
          obtain ⟨_, n1, l, ⟨vs4, h4⟩, h3⟩ := hb6 y (mem_of_get h1)
          refine ⟨l, [], ⟨keep n1 h3.ins, keep (ne_of h3.lst hm6 (fun z => nomatch z)) h3.lst⟩, .nil _, rfl, fun z => ?_⟩
          rcases List.mem_cons.mp z with e | z
          · have := fr6 fcl
            have e2 : l = cl := e
            rw [← e2, h4] at this
            cases this
          rcases List.mem_cons.mp z with e | z
          · have := fr6 nlg6
            have e2 : l = lg := e
            rw [← e2, h4] at this
            cases this
          · obtain ⟨u, hu, e⟩ := List.mem_map.mp z
            have := (hx6 u hu).1
            rw [e, h4] at this
            cases this
        box := fun i y ls h1 h2 => by
          have ee : ls = [] := List.eq_of_mem_replicate (mem_of_get h2)
          subst ee
          obtain ⟨_, _, h3⟩ := hx6 y (mem_of_get h1)
          refine ⟨[], ⟨keep (fun e => ?_) h3.ins, keep (ne_of h3.lst hm6 (fun z => nomatch z)) h3.lst⟩, .nil⟩
          have h4 := h3.ins
          rw [e, hm6] at h4
          injection h4 with h4
          injection h4 with _ _ h4
          injection h4 with h4 h5
          cases h5
        lenC := first_len okS
        lenB := ⟨by show (bs.length : Int) = p; omega, by show (List.replicate p.toNat []).length = bs.length; rw [List.length_replicate]; exact pn⟩
        lenX := ⟨by show (xs.length : Int) = p; omega, by show (List.replicate p.toNat []).length = xs.length; rw [List.length_replicate]; exact pn2⟩
        lenL := rfl
        shC := fun d hd => by
          have hd2 : d ∈ firstD p f b := hd
          unfold firstD at hd2
          rcases List.mem_append.mp hd2 with hd2 | hd2
          · rcases List.mem_append.mp hd2 with hd2 | hd2
            · rcases List.mem_append.mp hd2 with hd2 | hd2
              · rw [List.eq_of_mem_replicate hd2]
                exact ⟨by simp [noL], (sh_int _).up (by decide)⟩
              · rw [List.eq_of_mem_replicate hd2]
                exact ⟨by simp [noL], sh_none.up (by decide)⟩
            · rw [List.eq_of_mem_replicate hd2]
              exact ⟨by simp [noL], (sh_int _).up (by decide)⟩
          · rw [List.eq_of_mem_replicate hd2]
            exact ⟨by simp [noL, noLs], (sh_tup (sh_c (sh_int _) (sh_c (sh_int _) sh_n))).up (by decide)⟩
        shL := fun _ h => absurd h List.not_mem_nil
        shX := fun ls h => by
          rw [List.eq_of_mem_replicate h]
          exact fun _ h => absurd h List.not_mem_nil
        lim := fun es h => by
          rw [List.eq_of_mem_replicate h]
          exact Nat.zero_le _
        ndL := by
          have n1 : D ∉ xs.map fun y => y.2.2 := fun h => by
            obtain ⟨y, hy, e⟩ := List.mem_map.mp h
            have := (hx6 y hy).1
            rw [e, hD4] at this
            cases this
          have n2 : D2 ∉ xs.map fun y => y.2.2 := fun h => by
            obtain ⟨y, hy, e⟩ := List.mem_map.mp h
            exact (hx6 y hy).2.1 e
          have n3 : ∀ {c : Addr}, H6 c = none → c ∉ xs.map fun y => y.2.2 := fun {c} hc h => by
            obtain ⟨y, hy, e⟩ := List.mem_map.mp h
            have := (hx6 y hy).2.2.lst
            rw [e, hc] at this
            cases this
          have n4 : ∀ {c : Addr}, H6 c = none → D ≠ c ∧ D2 ≠ c := fun {c} hc => ⟨fun e => (by rw [← e, hD6] at hc; cases hc), fun e => (by rw [← e, hD26] at hc; cases hc)⟩
          show (D :: D2 :: cl :: lg :: xs.map fun y => y.2.2).Nodup
          simp only [List.nodup_cons, List.mem_cons, not_or]
          exact ⟨⟨nDD, (n4 fcl).1, (n4 nlg6).1, n1⟩, ⟨(n4 fcl).2, (n4 nlg6).2, n2⟩, ⟨nclg, n3 fcl⟩, n3 nlg6, nd2⟩
        ndB := nd
        ndI := fun y hy => (hb6 y hy).2.1 }

theorem ok_is_value (T : Txt w K mg a) : FnOk P w K mg base CX0 2 a.f_is_value a.d_is_value ["value"] (spValue K) := by
  refine T.F_is_value.ok sc_is_value (fun vs H Q E h => ?_) (fun cdv A outer s H vs Q E hr h => ?_)
  · obtain ⟨v, d, rfl, _⟩ := h
    rfl
  · obtain ⟨v, d, rfl, hd, q⟩ := h
    refine ⟨_, (pss_one (ps_ret (pe_or (pe_cmpR (op_isN) (pv 0) pe_non (by rfl)) (pe_or (pe_call (ok_is_whole T) (hr.mono (by decide)) rfl T.m_is_whole T.F_is_whole.kp T.B_is_whole .nil pass0 (pa_cons (pv 0) pa_nil)) (pe_one (pe_callB call_isi (by rfl) T.b_isinstance (by decide +kernel) (pa_cons (pv 0) (pa_cons (pe_bltn (v := .ty "tuple") rfl T.b_tuple (by decide +kernel) rfl) pa_nil)))))))), ?_⟩
    have ty := tyx hd
    cases hd with
    | non => exact ⟨_, rfl, rfl, _, rfl, iteT q⟩
    | bl c => exact ⟨_, rfl, rfl, _, rfl, iteF ⟨_, rfl, _, .bool c, rfl, .bl c, _, rfl, iteF ⟨_, rfl, _, _, _, _, _, rfl, .ty _, ty, kit_tup _, q⟩⟩⟩
    | int i => exact ⟨_, rfl, rfl, _, rfl, iteF ⟨_, rfl, _, .int i, rfl, .int i, _, rfl, iteT q⟩⟩
    | str x => exact ⟨_, rfl, rfl, _, rfl, iteF ⟨_, rfl, _, .str x, rfl, .str x, _, rfl, iteF ⟨_, rfl, _, _, _, _, _, rfl, .ty _, ty, kit_tup _, q⟩⟩⟩
    | @lst t xs ds sL aL => exact ⟨_, rfl, rfl, _, rfl, iteF ⟨_, rfl, _, .list ds, rfl, .lst sL aL, _, rfl, iteF ⟨_, rfl, _, _, _, _, _, rfl, .ty _, ty, kit_tup _, q⟩⟩⟩
    | @tup t xs ds sL aL => exact ⟨_, rfl, rfl, _, rfl, iteF ⟨_, rfl, _, .tuple ds, rfl, .tup sL aL, _, rfl, iteF ⟨_, rfl, _, _, _, _, _, rfl, .ty _, ty, kit_tup _, q⟩⟩⟩
theorem ok_bound_of (T : Txt w K mg a) : FnOk P w K mg base CX0 2 a.f_bound_of a.d_bound_of ["kind", "sizes"] (spBound a.C_Sizes) := by
  refine T.F_bound_of.ok sc_bound_of (fun vs H Q E h => ?_) (fun cdv A outer s H vs Q E hr h => ?_)
  · obtain ⟨k, z, dx, p, f, b, rfl, _⟩ := h
    rfl
  · obtain ⟨k, z, dx, p, f, b, rfl, hz, q⟩ := h
    refine ⟨_, (pss_cons (ps_if (pt_cmpR (op_eq) (pv 0) pe_str (nomark _)) (pss_one (ps_ret (pe_meth0 (pv 1) T.c_Sizes T.M_Sizes_cells (ok_Sizes_cells T) (hr.mono (by decide)) T.B_Sizes_cells .nil pass0))) pss_nil)
    (pss_cons (ps_if (pt_cmpR (op_eq) (pv 0) pe_str (nomark _)) (pss_one (ps_ret (pe_fld (pv 1) rfl))) pss_nil)
    (pss_cons (ps_if (pt_cmpR (op_eq) (pv 0) pe_str (nomark _)) (pss_one (ps_ret (pe_con rfl T.k_SPACES))) pss_nil)
    (pss_cons (ps_if (pt_cmpR (op_eq) (pv 0) pe_str (nomark _)) (pss_one (ps_ret (pe_con rfl T.k_PAGES))) pss_nil)
    (pss_one (ps_ret (pe_con rfl T.k_CELLS))))))), ?_⟩
    unfold boundK at q
    refine ⟨_, rfl, rfl, _, rfl, ?_⟩
    by_cases c1 : k = "cell"
    · rw [if_pos c1] at q
      exact ifT (by rw [c1]; simp) ⟨_, rfl, z, dx, _, rfl, hz, rfl, z, dx, p, f, b, rfl, hz, q⟩
    rw [if_neg c1] at q
    refine ifF (by simpa using c1) ⟨_, rfl, rfl, _, rfl, ?_⟩
    by_cases c2 : k = "processor"
    · rw [if_pos c2] at q
      exact ifT (by rw [c2]; simp) ⟨_, rfl, z, _, dx, _, _, rfl, hz, T.c_Sizes, T.n_Sizes_processors, rfl, q⟩
    rw [if_neg c2] at q
    refine ifF (by simpa using c2) ⟨_, rfl, rfl, _, rfl, ?_⟩
    by_cases c3 : k = "space"
    · rw [if_pos c3] at q
      exact ifT (by rw [c3]; simp) q
    rw [if_neg c3] at q
    refine ifF (by simpa using c3) ⟨_, rfl, rfl, _, rfl, ?_⟩
    by_cases c4 : k = "page"
    · rw [if_pos c4] at q
      exact ifT (by rw [c4]; simp) q
    rw [if_neg c4] at q
    exact ifF (by simpa using c4) q
theorem ok_is_part (T : Txt w K mg a) : FnOk P w K mg base CX0 5 a.f_is_part a.d_is_part ["part", "kind", "sizes"] (spPart K a.C_Sizes) := by
  refine T.F_is_part.ok sc_is_part (fun vs H Q E h => ?_) (fun cdv A outer s H vs Q E hr h => ?_)
  · obtain ⟨v, d, k, z, dx, p, f, b, rfl, _⟩ := h
    rfl
  · obtain ⟨v, d, k, z, dx, p, f, b, rfl, hd, few, hz, q⟩ := h
    refine ⟨_, (pss_cons (ps_if (pt_cmpR (op_eq) (pv 1) pe_str (nomark _)) (pss_one (ps_ret (pe_call (ok_is_value T) (hr.mono (by decide)) rfl T.m_is_value T.F_is_value.kp T.B_is_value .nil pass0 (pa_cons (pv 0) pa_nil)))) pss_nil)
    (pss_cons (ps_if (pt_cmpR (op_eq) (pv 1) pe_str (nomark _)) (pss_one (ps_ret (pe_call (ok_is_letter T) (hr.mono (by decide)) rfl T.m_is_letter T.F_is_letter.kp T.B_is_letter .nil pass0 (pa_cons (pv 0) pa_nil)))) pss_nil)
    (pss_one (ps_ret (pe_call (ok_is_number_below T) (hr.mono (by decide)) rfl T.m_is_number_below T.F_is_number_below.kp T.B_is_number_below .nil pass0 (pa_cons (pv 0) (pa_cons (pe_call (ok_bound_of T) (hr.mono (by decide)) rfl T.m_bound_of T.F_bound_of.kp T.B_bound_of .nil pass0 (pa_cons (pv 1) (pa_cons (pv 2) pa_nil))) pa_nil))))))), ?_⟩
    unfold partD at q
    refine ⟨_, rfl, rfl, _, rfl, ?_⟩
    by_cases c1 : k = "value"
    · rw [if_pos c1] at q
      exact ifT (by rw [c1]; simp) ⟨_, rfl, v, d, rfl, hd, q H (Same.refl H)⟩
    rw [if_neg c1] at q
    refine ifF (by simpa using c1) ⟨_, rfl, rfl, _, rfl, ?_⟩
    by_cases c2 : k = "letter"
    · rw [if_pos c2] at q
      exact ifT (by rw [c2]; simp) ⟨_, rfl, v, d, rfl, hd, few, q⟩
    rw [if_neg c2] at q
    exact ifF (by simpa using c2) ⟨_, rfl, _, rfl, _, rfl, k, z, dx, p, f, b, rfl, hz, _, d, _, rfl, hd, q H (Same.refl H)⟩
theorem ok_is_request (T : Txt w K mg a) : FnOk P w K mg base CX0 6 a.f_is_request a.d_is_request ["value", "sizes"] (spIsReq K a.C_Sizes) := by
  refine T.F_is_request.ok sc_is_request (fun vs H Q E h => ?_) (fun cdv A outer s H vs Q E hr h => ?_)
  · obtain ⟨v, d, z, dx, p, f, b, rfl, _⟩ := h
    rfl
  · obtain ⟨v, d, z, dx, p, f, b, rfl, hd, few, hz, q⟩ := h
    refine ⟨_, (pss_cons (ps_if (PW.pt (pw_or (pt_not (pt_val (pe_callB call_isi (by rfl) T.b_isinstance (by decide +kernel) (pa_cons (pv 0) (pa_cons (pe_bltn (v := .ty "tuple") rfl T.b_tuple (by decide +kernel) rfl) pa_nil))))) (pw_or (pt_cmpR (op_eq) (pe_callB call_len_seq (by rfl) T.b_len (by decide +kernel) (pa_cons (pv 0) pa_nil)) pe_int (nomark _)) (pw_or1 (pt_not (pt_val (pe_callB call_isi (by rfl) T.b_isinstance (by decide +kernel) (pa_cons (pe_ix ix_tup (pv 0) pe_int (fun _ _ => rfl)) (pa_cons (pe_bltn (v := .ty "str") rfl T.b_str (by decide +kernel) rfl) pa_nil))))))))) (pss_one (ps_ret pe_bl)) pss_nil)
    (pss_cons (ps_set (i := 2) sc_is_request.nd rfl (Or.inl rfl) (Pk.pe_kget1 (pe_glob (v := .ref T.pt.ex.choose) rfl T.pt.ex.choose_spec.1 rfl) (pe_ix ix_tup (pv 0) pe_int (fun _ _ => rfl)) ⟨rfl, rfl, rfl, rfl⟩))
    (pss_cons (ps_if (PW.pt (pw_or (pt_cmpR (op_isN) (pv 2) pe_non (by rfl)) (pw_or1 (pt_cmpR (op_ne) (pe_callB call_len_seq (by rfl) T.b_len (by decide +kernel) (pa_cons (pv 0) pa_nil)) (pe_op op_add pe_int (pe_callB call_len_seq (by rfl) T.b_len (by decide +kernel) (pa_cons (pv 2) pa_nil))) (nomark _))))) (pss_one (ps_ret pe_bl)) pss_nil)
    (pss_one (ps_ret (pe_callB (cr_all rfl) (by rfl) T.b_all (by decide +kernel) (pa_cons (pe_lc (own := [("part", 3), ("kind", 4)]) (g := (gTup K 2 (gCons (gName 3) (gCons (gName 4) gNil)))) (tt := tYes) rfl sc_is_request.nd (RZ.pi_zipA (by rfl) T.b_zip (pa_cons (pe_slice sl_tupA (pv 0) (po_some pe_int) po_none) (pa_cons (pv 2) pa_nil))) (blkOk_by (own := [("part", 3), ("kind", 4)]) (N := ["value", "sizes", "kinds", "part", "kind"]) (sc := defScope s_is_request) (by decide +kernel)) (fun _ _ _ _ _ => (pg_tup rfl (pgs_cons (pg_name (i := 3) sc_is_request.nd rfl (Or.inl rfl)) (pgs_cons (pg_name (i := 4) sc_is_request.nd rfl (Or.inl rfl)) pgs_nil)))) (fun _ _ _ _ _ => pts_nil) (fun _ _ _ _ _ => (pe_call (ok_is_part T) (hr.mono (by decide)) rfl T.m_is_part T.F_is_part.kp T.B_is_part .nil pass0 (pa_cons (pv 3) (pa_cons (pv 4) (pa_cons (pv 1) pa_nil)))))) pa_nil))))))), ?_⟩
    have ty := tyx hd
    cases hd with
    | non => exact ⟨_, rfl, _, _, _, _, _, rfl, .ty _, ty, kit_tup _, _, rfl, iteT (iteT (q H (Same.refl H)))⟩
    | bl c => exact ⟨_, rfl, _, _, _, _, _, rfl, .ty _, ty, kit_tup _, _, rfl, iteT (iteT (q H (Same.refl H)))⟩
    | int i => exact ⟨_, rfl, _, _, _, _, _, rfl, .ty _, ty, kit_tup _, _, rfl, iteT (iteT (q H (Same.refl H)))⟩
    | str x => exact ⟨_, rfl, _, _, _, _, _, rfl, .ty _, ty, kit_tup _, _, rfl, iteT (iteT (q H (Same.refl H)))⟩
    | @lst t xs ds sL aL => exact ⟨_, rfl, _, _, _, _, _, rfl, .ty _, ty, kit_tup _, _, rfl, iteT (iteT (q H (Same.refl H)))⟩
    | @tup t xs ds sT aT =>
      refine ⟨_, rfl, _, _, _, _, _, rfl, .ty _, ty, kit_tup _, _, rfl, iteF ⟨_, rfl, _, _, rfl, .inr sT, rfl, _, rfl, ?_⟩⟩
      cases aT with
      | nil => exact iteT (iteT (q H (Same.refl H)))
      | @cons v0 xr d0 r h0 aR =>
        have el := dpAll_len aR
        refine iteF ⟨_, rfl, _, _, _, _, rfl, rfl, sT, at_of (j := 0) rfl rfl, _, _, _, _, _, rfl, .ty _, tyx h0, kit_str _, _, rfl, ?_⟩
        cases h0 with
        | non => exact iteT (q H (Same.refl H))
        | bl c => exact iteT (q H (Same.refl H))
        | int i => exact iteT (q H (Same.refl H))
        | lst _ _ => exact iteT (q H (Same.refl H))
        | tup _ _ => exact iteT (q H (Same.refl H))
        | str nm =>
          refine iteF ?_
          have eR : reqD (.tuple (.str nm :: r)) p f b = reqL nm r p f b := rfl
          rw [eR] at q
          refine ⟨_, rfl, T.pt.ex.choose_spec.2.1, _, rfl, _, _, _, _, rfl, rfl, sT, at_of (j := 0) rfl rfl, nm, rfl, ?_⟩
          rcases T.pt.ex.choose_spec.2.2 nm with ⟨ks, t2, hk, hn, hT⟩ | ⟨hk, hn⟩
          · refine .inl ⟨_, .ref t2, hn, rfl, ?_⟩
            have eL : reqL nm r p f b = (decide (r.length = ks.length) && (r.zip ks).all fun y => partD y.1 y.2 p f b) := by
              unfold reqL
              rw [hk]
            rw [eL] at q
            refine ⟨_, rfl, rfl, _, rfl, iteF ⟨_, rfl, _, _, rfl, .inr sT, _, rfl, _, _, rfl, .inr (hT H), _, _, rfl, rfl, rfl, _, rfl, ?_⟩⟩
            by_cases c : ¬ r.length = ks.length
            · rw [decide_eq_false c, Bool.false_and] at q
              refine ifT ?_ (q H (Same.refl H))
              simp only [List.length_cons, List.length_map, el, Bool.not_eq_true', decide_eq_false_iff_not, V.int.injEq]
              omega
            have c2 : r.length = ks.length := Classical.not_not.mp c
            refine ifF ?_ ?_
            · simp only [List.length_cons, List.length_map, el, Bool.not_eq_false', decide_eq_true_eq, V.int.injEq]
              omega
            · rw [decide_eq_true c2, Bool.true_and] at q
              have lo1 : HT.sIx (V.str nm :: xr).length 0 (some 1) = min 1 (V.str nm :: xr).length := HT.sIx_nat _ 0 1
              refine ⟨_, rfl, 1, rfl, t, V.str nm :: xr, rfl, sT, (fun h => absurd h.1 (by rw [lo1, List.length_cons]; omega)), fun _ u hu => ⟨_, rfl, ?_⟩⟩
              rw [cut1]
              have e1 := Same.new (o := .tup ((V.str nm :: xr).drop 1)) hu
              have hu1 : upd H u (.tup ((V.str nm :: xr).drop 1)) u = some (.tup xr) := upd_same
              generalize upd H u (.tup ((V.str nm :: xr).drop 1)) = H1 at e1 hu1 ⊢
              have lenX : xr.length = (ks.map V.str).length := by rw [List.length_map, el, c2]
              have w100 := few.wide _ rfl
              refine ⟨u, t2, xr, ks.map V.str, rfl, .inr ⟨SqT.of hu1, hT H1, fun D hD => ?_⟩⟩
              refine lc_zipT (K := K) (a := u) (b := t2) (xs := xr) (ys := ks.map V.str) lenX (fun i H' => Same H1 H' ∧ H' D = some (.lst (((r.zip ks).take i).map fun y => V.bl (partD y.1 y.2 p f b)))) ⟨Same.new hD, upd_same⟩ (fun i H' _ ⟨eS, _⟩ => ⟨SqT.of (eS _ _ hu1), hT H'⟩) ?_ ?_
              · rintro i x y t3 H' hx hy ⟨eS, eD⟩ ht3
                obtain ⟨dx2, h1, h2⟩ := dpAll_get aR hx
                obtain ⟨k2, h3, rfl⟩ := map_get hy
                have e3 := eS.trans (Same.new (o := .tup [x, .str k2]) ht3)
                have nDt : D ≠ t3 := ne_of_none eD ht3
                refine ⟨t3, _, rfl, SqT.of upd_same, rfl, _, _, rfl, _, _, rfl, rfl, rfl, _, rfl, _, rfl, _, rfl, x, dx2, k2, z, dx, p, f, b, rfl, dp_mono (e1.trans e3) h2, few.deep _ rfl dx2 (List.mem_cons_of_mem _ (mem_of_get h1)), (e1.trans e3) _ _ hz, fun H4 e4 => ?_⟩
                have hz3 : (r.zip ks)[i]? = some (dx2, k2) := by rw [List.getElem?_zip_eq_some]; exact ⟨h1, h3⟩
                refine ⟨_, e4 _ _ ((upd_ne nDt).trans eD), ?_, Same.put (e3.trans e4) hD, ?_⟩
                · rw [List.length_map]
                  have : ((r.zip ks).take i).length ≤ 100 := by
                    rw [List.length_take, List.length_zip]
                    simp only [List.length_cons] at w100
                    omega
                  exact Nat.lt_of_le_of_lt this (by decide)
                · rw [upd_same, take_snoc hz3, List.map_append]
                  rfl
              · rintro H' ⟨eS, eD⟩
                refine ⟨D, (r.zip ks).map fun y => partD y.1 y.2 p f b, rfl, SqL.of ?_, ?_⟩
                · rw [eD, List.take_of_length_le (by rw [List.length_zip]; omega), List.map_map]
                  rfl
                · have e7 : ((r.zip ks).map fun y => partD y.1 y.2 p f b).all id = (r.zip ks).all fun y => partD y.1 y.2 p f b := by
                    rw [List.all_map]
                    rfl
                  rw [e7]
                  exact q H' (e1.trans eS)
          · have eL : reqL nm r p f b = false := by
              unfold reqL
              rw [hk]
            rw [eL] at q
            exact .inr ⟨hn, _, rfl, rfl, _, rfl, iteT (iteT (q H (Same.refl H)))⟩

theorem ok_Sizes_acknowledge (T : Txt w K mg a) : FnOk P w K mg base CX0 1 a.f_Sizes_acknowledge a.d_Sizes_acknowledge ["self", "processor"] (spAck a.C_Sizes) := by
  refine T.F_Sizes_acknowledge.ok sc_Sizes_acknowledge (fun vs H Q E h => ?_) (fun cdv A outer s H vs Q E hr h => ?_)
  · obtain ⟨z, dx, p, f, b, i, rfl, _⟩ := h
    rfl
  · obtain ⟨z, dx, p, f, b, i, rfl, hz, q⟩ := h
    exact ⟨_, (pss_one (ps_ret (pe_op op_add (pe_fld (pv 0) rfl) (pv 1)))), _, rfl, z, _, dx, _, _, rfl, hz, T.c_Sizes, T.n_Sizes__acknowledges, rfl, _, rfl, _, _, rfl, rfl, q⟩
theorem ok_Sizes_word (T : Txt w K mg a) : FnOk P w K mg base CX0 1 a.f_Sizes_word a.d_Sizes_word ["self", "space", "page"] (spWordC a.C_Sizes) := by
  refine T.F_Sizes_word.ok sc_Sizes_word (fun vs H Q E h => ?_) (fun cdv A outer s H vs Q E hr h => ?_)
  · obtain ⟨z, dx, p, f, b, i, j, rfl, _⟩ := h
    rfl
  · obtain ⟨z, dx, p, f, b, i, j, rfl, hz, q⟩ := h
    exact ⟨_, (pss_one (ps_ret (pe_op op_add (pe_op op_add (pe_fld (pv 0) rfl) (pe_op op_mul (pe_con rfl T.k_PAGES) (pv 1))) (pv 2)))), _, rfl, z, _, dx, _, _, rfl, hz, T.c_Sizes, T.n_Sizes__words, rfl, _, rfl, _, _, rfl, rfl, .inl ⟨by decide, by decide⟩, _, _, rfl, rfl, _, rfl, _, _, rfl, rfl, q⟩
theorem ok_Sizes_frame_cell (T : Txt w K mg a) : FnOk P w K mg base CX0 1 a.f_Sizes_frame_cell a.d_Sizes_frame_cell ["self", "frame", "index"] (spFrameC a.C_Sizes) := by
  refine T.F_Sizes_frame_cell.ok sc_Sizes_frame_cell (fun vs H Q E h => ?_) (fun cdv A outer s H vs Q E hr h => ?_)
  · obtain ⟨z, dx, p, f, b, i, j, rfl, _⟩ := h
    rfl
  · obtain ⟨z, dx, p, f, b, i, j, rfl, hz, i0, i1, q⟩ := h
    exact ⟨_, (pss_one (ps_ret (pe_op op_add (pe_op op_add (pe_fld (pv 0) rfl) (pe_op op_mul (pe_con rfl T.k_CELLS) (pv 1))) (pv 2)))), _, rfl, z, _, dx, _, _, rfl, hz, T.c_Sizes, T.n_Sizes__frame_cells, rfl, _, rfl, _, _, rfl, rfl, .inl ⟨by decide, by decide⟩, _, _, rfl, rfl, _, rfl, _, _, rfl, rfl, q⟩

theorem sb_free {b l : Addr} {H H' : Hp} (e : SameBut b H H') (h : H' l = none) (n : l ≠ b) : H l = none := by
  cases hh : H l with
  | none => rfl
  | some o =>
    rw [e l o n hh] at h
    cases h
theorem ok_Buffer_drop (T : Txt w K mg a) : FnOk P w K mg base CX0 1 a.f_Buffer_drop a.d_Buffer_drop ["self", "pairs"] (spDrop K a.C_Buffer) := by
  refine T.F_Buffer_drop.ok sc_Buffer_drop (fun vs H Q E h => ?_) (fun cdv A outer s H vs Q E hr h => ?_)
  · obtain ⟨b, dx, l, zs, y, ps, rfl, _⟩ := h
    rfl
  · obtain ⟨b, dx, l, zs, y, ps, rfl, hB, hE, lim, hy, q⟩ := h
    refine ⟨_, (pss_one (ps_fld (pv 0) (pe_lc (own := [("entry", 2)]) (g := gName 2) (tt := _) rfl sc_Buffer_drop.nd (pi_list (pe_fld (pv 0) rfl)) (blkOk_by (own := [("entry", 2)]) (N := ["self", "pairs", "entry"]) (sc := defScope s_Buffer_drop) (by decide +kernel)) (fun _ _ _ _ _ => (pg_name (i := 2) sc_Buffer_drop.nd rfl (Or.inl rfl))) (fun _ _ _ _ _ => (pts_one (pt_cmpR ((op_niD (hu65 hr) : OpR _ (compareOp .NotIn) (rNiD K))) (pe_slice (sl_tupA : SlR _ (rSlA K)) (pv 2) po_none (po_some pe_int)) (pv 1) rfl))) (fun _ _ _ _ _ => (pv 2))) rfl)), ?_⟩
    refine ⟨_, rfl, b, a.C_Buffer, dx, _, _, rfl, hB.ins, T.c_Buffer, T.n_Buffer__entries, rfl, l, rfl, ⟨_, SqL.of hB.lst⟩, fun D hD => ?_⟩
    refine lc_list (K := K) (a := l) (xs := zs.map aV) (fun i H' => ∃ G, H' = upd G D (.lst (((zs.take i).filter fun z => keep ps z.2).map aV)) ∧ Same H G ∧ G D = none)
      ⟨H, rfl, Same.refl H, hD⟩ (fun i H' _ ⟨G, e, eS, gD⟩ => by rw [e]; exact SqL.of ((Same.new gD) _ _ (eS _ _ hB.lst))) ?_ ?_
    · rintro i x H' hx ⟨G, rfl, eS, gD⟩
      obtain ⟨z, hz, rfl⟩ := map_get hx
      have hzz := eS _ _ (hE z (mem_of_get hz))
      refine ⟨rfl, _, rfl, 2, rfl, z.1, eV z.2, rfl, SqT.of ((Same.new gD) _ _ hzz), (fun h => absurd h.2 (by show ¬ (2 : Nat) = 4; decide)), fun _ t ht => ?_⟩
      have ntD : t ≠ D := fun e => by rw [e, upd_same] at ht; cases ht
      have gt : G t = none := (upd_ne ntD).symm.trans ht
      have eC : upd (upd G D (.lst (((zs.take i).filter fun z => keep ps z.2).map aV))) t (.tup [.int z.2.s, .int z.2.p]) = upd (upd G t (.tup [.int z.2.s, .int z.2.p])) D (.lst (((zs.take i).filter fun z => keep ps z.2).map aV)) := upd_comm (Ne.symm ntD)
      have eG : Same H (upd G t (.tup [.int z.2.s, .int z.2.p])) := eS.trans (Same.new gt)
      have gD2 : upd G t (.tup [.int z.2.s, .int z.2.p]) D = none := (upd_ne (Ne.symm ntD)).trans gD
      have eA : Same H (upd (upd G t (.tup [.int z.2.s, .int z.2.p])) D (.lst (((zs.take i).filter fun z => keep ps z.2).map aV))) := eG.trans (Same.new gD2)
      refine ⟨_, rfl, pD (z.2.s, z.2.p), ps.map pD, ?_, ?_, (shP _).ok, (shPs ps).ok, _, rfl, ?_⟩
      · exact .tup (SqT.of upd_same) (.cons (.int _) (.cons (.int _) .nil))
      · show Dp K (upd (upd G D _) t (.tup [.int z.2.s, .int z.2.p])) y _ ∨ Dp K (upd (upd G D _) t (.tup [.int z.2.s, .int z.2.p])) y _
        rw [eC]
        exact hy.imp (dp_mono eA) (dp_mono eA)
      · have ek : (!(ps.map pD).any fun d => PyData.eqv d (pD (z.2.s, z.2.p))) = keep ps z.2 := any_pD ps z.2
        refine ite2 (fun c => ?_) (fun c => ?_)
        · refine ⟨_, rfl, _, (upd_ne (Ne.symm ntD)).trans upd_same, ?_, upd G t (.tup [.int z.2.s, .int z.2.p]), ?_, eG, gD2⟩
          · rw [List.length_map]
            refine Nat.lt_of_le_of_lt (Nat.le_trans (List.length_filter_le _ _) (by rw [List.length_take]; exact Nat.le_trans (Nat.min_le_right _ _) lim)) (by decide : 1000 < sizeLine)
          · rw [ek] at c
            show upd (upd (upd G D _) t (.tup [.int z.2.s, .int z.2.p])) D _ = _
            rw [eC, upd_upd, take_snoc hz, List.filter_append, List.map_append, List.filter_cons, if_pos c]
            rfl
        · refine ⟨upd G t (.tup [.int z.2.s, .int z.2.p]), ?_, eG, gD2⟩
          rw [ek] at c
          show upd (upd G D _) t (.tup [.int z.2.s, .int z.2.p]) = _
          rw [eC, take_snoc hz, List.filter_append, List.filter_cons, if_neg c, List.filter_nil, List.append_nil]
    · rintro H' ⟨G, rfl, eS, gD⟩
      rw [List.length_map, List.take_length]
      have nb : b ≠ D := ne_of_none (eS _ _ hB.ins) gD
      refine ⟨_, rfl, b, a.C_Buffer, dx, _, rfl, (Same.new gD) _ _ (eS _ _ hB.ins), T.c_Buffer, T.n_Buffer__entries, (by show 1 < 1000; decide), ?_⟩
      exact q _ D (fun x o nx hx => (upd_ne nx).trans ((Same.new gD) _ _ (eS _ _ hx))) hD ⟨upd_same, (upd_ne (Ne.symm nb)).trans upd_same⟩
theorem ok_leads_to_frame (T : Txt w K mg a) : FnOk P w K mg base CX0 1 a.f_leads_to_frame a.d_leads_to_frame ["word"] (spLeadsW K) := by
  refine T.F_leads_to_frame.ok sc_leads_to_frame (fun vs H Q E h => ?_) (fun cdv A outer s H vs Q E hr h => ?_)
  · obtain ⟨y, x, rfl, _⟩ := h
    rfl
  · obtain ⟨y, x, rfl, hy, q⟩ := h
    refine ⟨_, (pss_one (ps_ret (pe_and (pe_callB call_isi (by rfl) T.b_isinstance (by decide +kernel) (pa_cons (pv 0) (pa_cons (pe_bltn (v := .ty "tuple") rfl T.b_tuple (by decide +kernel) rfl) pa_nil))) (pe_and (pe_cmpR (op_eq) (pe_callB call_len_seq (by rfl) T.b_len (by decide +kernel) (pa_cons (pv 0) pa_nil)) pe_int (nomark _)) (pe_one (pe_cmpR (op_eq) (pe_ix ix_tup (pv 0) pe_int (fun _ _ => rfl)) pe_str (nomark _))))))), ?_⟩
    refine ⟨_, rfl, _, _, _, _, _, rfl, .ty _, tyx hy, kit_tup _, _, rfl, ?_⟩
    cases x with
    | non => exact iteF q
    | frame f w =>
      cases hy with
      | @tup t xs _ sT aT =>
      cases aT with
      | cons d0 aT =>
      cases aT with
      | cons d1 aT =>
      cases aT with
      | cons d2 aT =>
      cases aT
      cases d0
      exact iteT ⟨_, rfl, _, _, rfl, .inr sT, rfl, _, rfl, iteT ⟨_, rfl, _, _, _, _, rfl, rfl, sT, at_of (j := 0) rfl rfl, rfl, q⟩⟩
    | swap n =>
      cases hy with
      | @tup t xs _ sT aT =>
      cases aT with
      | cons d0 aT =>
      cases aT with
      | cons d1 aT =>
      cases aT
      exact iteT ⟨_, rfl, _, _, rfl, .inr sT, rfl, _, rfl, iteF q⟩
    | file =>
      cases hy with
      | @tup t xs _ sT aT =>
      cases aT with
      | cons d0 aT =>
      cases aT with
      | cons d1 aT =>
      cases aT with
      | cons d2 aT =>
      cases aT
      cases d0
      exact iteT ⟨_, rfl, _, _, rfl, .inr sT, rfl, _, rfl, iteT ⟨_, rfl, _, _, _, _, rfl, rfl, sT, at_of (j := 0) rfl rfl, rfl, q⟩⟩
    | held =>
      cases hy with
      | @tup t xs _ sT aT =>
      cases aT with
      | cons d0 aT =>
      cases aT
      exact iteT ⟨_, rfl, _, _, rfl, .inr sT, rfl, _, rfl, iteF q⟩
theorem ok_Buffer_put (T : Txt w K mg a) : FnOk P w K mg base CX0 2 a.f_Buffer_put a.d_Buffer_put ["self", "space", "page", "word"] (spPut K a.C_Buffer) := by
  refine T.F_Buffer_put.ok sc_Buffer_put (fun vs H Q E h => ?_) (fun cdv A outer s H vs Q E hr h => ?_)
  · obtain ⟨b, dx, l, zs, s, p, y, x, rfl, _⟩ := h
    rfl
  · obtain ⟨b, dx, l, zs, sp, pg, y, x, rfl, hB, hE, lim, hy, q⟩ := h
    refine ⟨_, (pss_cons (ps_expr (pe_meth (pv 0) T.c_Buffer T.M_Buffer_drop (ok_Buffer_drop T) (hr.mono (by decide)) T.B_Buffer_drop .nil pass0 (pa_cons (pe_lst (pa_cons (pe_tup (pa_cons (pv 1) (pa_cons (pv 2) pa_nil))) pa_nil)) pa_nil)))
    (pss_one (ps_if (pt_val (pe_call (ok_leads_to_frame T) (hr.mono (by decide)) rfl T.m_leads_to_frame T.F_leads_to_frame.kp T.B_leads_to_frame .nil pass0 (pa_cons (pv 3) pa_nil))) (pss_cons (ps_expr (pe_bm PySem.F.plainAttrs_list PySem.F.slot_list_append PySem.F.type_list_append mt_append (pe_fld (pv 0) rfl) (pa_cons (pe_tup (pa_cons (pv 1) (pa_cons (pv 2) (pa_cons (pe_ix ix_tup (pv 3) pe_int (fun _ _ => rfl)) (pa_cons (pe_ix ix_tup (pv 3) pe_int (fun _ _ => rfl)) pa_nil))))) pa_nil)))
    (pss_one (ps_fld (pv 0) (pe_slice sl_list (pe_fld (pv 0) rfl) (po_some (pe_un un_neg (pe_con rfl T.k_MOST_ENTRIES))) po_none) rfl))) pss_nil))), ?_⟩
    refine ⟨_, rfl, b, dx, _, rfl, hB.ins, rfl, _, rfl, _, rfl, (by show 2 ≤ sizeLine; decide), fun t ht => ⟨(by show 1 ≤ sizeLine; decide), fun u hu => ?_⟩⟩
    have e1 := (Same.new (o := .tup [.int sp, .int pg]) ht).trans (Same.new (o := .lst [.ref t]) hu)
    have tT : upd (upd H t (.tup [.int sp, .int pg])) u (.lst [.ref t]) t = some (.tup [.int sp, .int pg]) := (Same.new hu) _ _ upd_same
    refine ⟨b, dx, l, zs, .ref u, [(sp, pg)], rfl, ⟨e1 _ _ hB.ins, e1 _ _ hB.lst⟩, fun z hz => e1 _ _ (hE z hz), by omega, .inl (.lst (SqL.of upd_same) (.cons (.tup (SqT.of tT) (.cons (.int _) (.cons (.int _) .nil))) .nil)), fun H1 l1 s1 l1f hB1 => ?_⟩
    have kt1 : KT H H1 := (KT.of e1).trans (s1.kt (e1 _ _ hB.ins))
    have hE1 : EnAll H1 (zs.filter fun z => keep [(sp, pg)] z.2) := (hE.kt kt1).filter _
    have sb1 : SameBut b H H1 := (Same.but e1).trans s1
    have wL : ∃ wd, wd = wD x := ⟨_, rfl⟩
    cases x with
    | frame f wr =>
      have hy1 := dp_keep kt1 (by simp [wD, noL, noLs]) hy
      refine ⟨_, rfl, y, _, rfl, hy1, _, rfl, iteT ?_⟩
      cases hy1 with
      | @tup yt xs _ sT aT =>
      cases aT with
      | cons d0 aT =>
      cases aT with
      | cons d1 aT =>
      cases aT with
      | cons d2 aT =>
      cases aT
      cases d0
      cases d1
      cases d2
      -- self._entries.append((space, page, word[1], word[2]))
      refine ⟨_, rfl, b, a.C_Buffer, dx, _, _, rfl, hB1.ins, T.c_Buffer, T.n_Buffer__entries, rfl, .inl ⟨rfl, _, SqL.of hB1.lst⟩, _, rfl, _, rfl, _, rfl, yt, _, _, _, rfl, rfl, sT, at_of (j := 1) rfl rfl,
        _, rfl, yt, _, _, _, rfl, rfl, sT, at_of (j := 2) rfl rfl, (by show 4 ≤ sizeLine; decide), fun t2 ht2 => ?_⟩
      have nlt : l1 ≠ t2 := ne_of_none hB1.lst ht2
      have nbt : b ≠ t2 := ne_of_none hB1.ins ht2
      have nbl : b ≠ l1 := ne_of hB1.ins hB1.lst (fun z => nomatch z)
      have len1 : (zs.filter fun z => keep [(sp, pg)] z.2).length ≤ 2 := Nat.le_trans (List.length_filter_le _ _) lim
      refine ⟨l1, _, _, rfl, rfl, (upd_ne nlt).trans hB1.lst, ?_, ?_⟩
      · rw [List.length_map]
        exact Nat.lt_of_le_of_lt len1 (by decide)
      have eApp : (zs.filter fun z => keep [(sp, pg)] z.2).map aV ++ [V.ref t2] = ((zs.filter fun z => keep [(sp, pg)] z.2) ++ [(t2, (⟨sp, pg, f, wr⟩ : En))]).map aV := by
        rw [List.map_append]
        rfl
      rw [eApp]
      have hA : ∃ zs2 : List (Addr × En), zs2 = (zs.filter fun z => keep [(sp, pg)] z.2) ++ [(t2, (⟨sp, pg, f, wr⟩ : En))] := ⟨_, rfl⟩
      obtain ⟨zs2, ez⟩ := hA
      rw [← ez]
      have len2 : zs2.length ≤ 3 := by rw [ez, List.length_append, List.length_singleton]; omega
      have h2b : upd (upd H1 t2 (.tup [.int sp, .int pg, .int f, .bl wr])) l1 (.lst (zs2.map aV)) b = some (.ins a.C_Buffer dx [("_entries", .ref l1)]) := (upd_ne nbl).trans ((upd_ne nbt).trans hB1.ins)
      have hE2 : EnAll (upd (upd H1 t2 (.tup [.int sp, .int pg, .int f, .bl wr])) l1 (.lst (zs2.map aV))) zs2 := by
        rw [ez]
        refine EnAll.kt (H := upd H1 t2 (.tup [.int sp, .int pg, .int f, .bl wr])) ?_ (KT.lst ((upd_ne nlt).trans hB1.lst))
        exact (hE1.kt (KT.new ht2)).app (.one upd_same)
      have hB2 : upd (upd H1 t2 (.tup [.int sp, .int pg, .int f, .bl wr])) l1 (.lst (zs2.map aV)) l1 = some (.lst (zs2.map aV)) := upd_same
      have sb2 : SameBut b H (upd (upd H1 t2 (.tup [.int sp, .int pg, .int f, .bl wr])) l1 (.lst (zs2.map aV))) := (sb1.trans (Same.but (Same.new ht2))).put (e1.free l1f)
      generalize upd (upd H1 t2 (.tup [.int sp, .int pg, .int f, .bl wr])) l1 (.lst (zs2.map aV)) = H2 at h2b hE2 hB2 sb2 ⊢
      -- self._entries = self._entries[-MOST_ENTRIES:]
      refine ⟨_, rfl, b, a.C_Buffer, dx, _, _, rfl, h2b, T.c_Buffer, T.n_Buffer__entries, rfl, 2, rfl, _, rfl, l1, _, rfl, SqL.of hB2, fun l2 hl2 => ?_⟩
      have nbl2 : b ≠ l2 := ne_of_none h2b hl2
      refine ⟨_, rfl, b, a.C_Buffer, dx, _, rfl, (upd_ne nbl2).trans h2b, T.c_Buffer, T.n_Buffer__entries, (by show 1 < 1000; decide), ?_⟩
      refine q _ l2 (zs2.drop (zs2.length - 2)) ?_ (sb_free sb2 hl2 (Ne.symm nbl2)) ⟨upd_same, ?_⟩ ?_ ?_
      · exact (sb2.trans (Same.but (Same.new hl2))).own
      · rw [upd_ne (Ne.symm nbl2), upd_same, cut_last2, List.map_drop]
        rw [List.length_map]
      · exact ((hE2.kt (KT.new hl2)).kt (KT.ins ((upd_ne nbl2).trans h2b))).drop _
      · rw [List.map_drop, ez, List.map_append, filter_snd]
        exact last2_drop _ _ ⟨by rw [List.length_append, List.length_singleton, ← filter_snd, List.length_map], by rw [← filter_snd, List.length_map]; exact len1⟩
    | non =>
      refine ⟨_, rfl, y, _, rfl, dp_keep kt1 (by simp [wD, noL, noLs]) hy, _, rfl, iteF ?_⟩
      exact q _ l1 _ sb1 (e1.free l1f) hB1 hE1 (by rw [filter_snd]; rfl)
    | swap n =>
      refine ⟨_, rfl, y, _, rfl, dp_keep kt1 (by simp [wD, noL, noLs]) hy, _, rfl, iteF ?_⟩
      exact q _ l1 _ sb1 (e1.free l1f) hB1 hE1 (by rw [filter_snd]; rfl)
    | file =>
      refine ⟨_, rfl, y, _, rfl, dp_keep kt1 (by simp [wD, noL, noLs]) hy, _, rfl, iteF ?_⟩
      exact q _ l1 _ sb1 (e1.free l1f) hB1 hE1 (by rw [filter_snd]; rfl)
    | held =>
      refine ⟨_, rfl, y, _, rfl, dp_keep kt1 (by simp [wD, noL, noLs]) hy, _, rfl, iteF ?_⟩
      exact q _ l1 _ sb1 (e1.free l1f) hB1 hE1 (by rw [filter_snd]; rfl)
theorem ok_Buffer_frame_for (T : Txt w K mg a) : FnOk P w K mg base CX0 1 a.f_Buffer_frame_for a.d_Buffer_frame_for ["self", "space", "page", "writing"] (spFrameFor a.C_Buffer) := by
  refine T.F_Buffer_frame_for.ok sc_Buffer_frame_for (fun vs H Q E h => ?_) (fun cdv A outer s H vs Q E hr h => ?_)
  · obtain ⟨b, dx, l, zs, s, p, wr, rfl, _⟩ := h
    rfl
  · obtain ⟨b, dx, l, zs, sp, pg, wr, rfl, hB, hE, q⟩ := h
    refine ⟨_, (pss_cons (ps_for PassesOwn.never rfl (pi_list (pe_fld (pv 0) rfl)) (pg_tup rfl (pgs_cons (pg_name (i := 4) sc_Buffer_frame_for.nd rfl (Or.inl rfl)) (pgs_cons (pg_name (i := 5) sc_Buffer_frame_for.nd rfl (Or.inl rfl)) (pgs_cons (pg_name (i := 6) sc_Buffer_frame_for.nd rfl (Or.inl rfl)) (pgs_cons (pg_name (i := 7) sc_Buffer_frame_for.nd rfl (Or.inl rfl)) pgs_nil)))))
    (pss_one (ps_if (PW.pt (pw_and (pt_cmpR (op_eqD hr.units) (pe_tup (pa_cons (pv 4) (pa_cons (pv 5) pa_nil))) (pe_tup (pa_cons (pv 1) (pa_cons (pv 2) pa_nil))) (nomark _)) (pw_and1 (PW.pt (pw_or (pt_val (pv 7)) (pw_or1 (pt_not (pt_val (pv 3))))))))) (pss_one (ps_ret (pv 6))) pss_nil)))
    (pss_one (ps_ret pe_non))), ?_⟩
    refine ⟨_, rfl, b, a.C_Buffer, dx, _, _, rfl, hB.ins, T.c_Buffer, T.n_Buffer__entries, rfl, l, rfl, ⟨_, SqL.of hB.lst⟩,
      for_list (K := K) (a := l) (xs := zs.map aV) (fun i σ H' => ∃ x4 x5 x6 x7, σ = [some (.ref b), some (.int sp), some (.int pg), some (.bl wr), x4, x5, x6, x7] ∧ Same H H' ∧ ∀ z ∈ zs.take i, fits sp pg wr z.2 = false)
      ⟨none, none, none, none, rfl, Same.refl H, fun _ h => absurd h (by simp)⟩ (fun i σ H' _ ⟨_, _, _, _, _, e, _⟩ => SqL.of (e _ _ hB.lst)) ?_ ?_⟩
    · rintro i x σ H' hx ⟨x4, x5, x6, x7, rfl, eS, hn⟩
      obtain ⟨z, hz, rfl⟩ := map_get hx
      have hzz := eS _ _ (hE z (mem_of_get hz))
      refine ⟨z.1, eV z.2, rfl, SqT.of hzz, rfl, _, _, rfl, _, _, rfl, _, _, rfl, _, _, rfl, rfl, ?_⟩
      refine ⟨_, rfl, _, rfl, (by show 2 ≤ sizeLine; decide), fun t ht => ⟨_, rfl, _, rfl, (by show 2 ≤ sizeLine; decide), fun u hu => ?_⟩⟩
      have e2 := (Same.new (o := .tup [.int z.2.s, .int z.2.p]) ht).trans (Same.new (o := .tup [.int sp, .int pg]) hu)
      refine ⟨pD (z.2.s, z.2.p), pD (sp, pg), .tup (SqT.of ((Same.new hu) _ _ upd_same)) (.cons (.int _) (.cons (.int _) .nil)), .tup (SqT.of upd_same) (.cons (.int _) (.cons (.int _) .nil)), (shP _).ok, (shP _).ok, _, rfl, ?_⟩
      have next : fits sp pg wr z.2 = false → ∀ y ∈ zs.take (i + 1), fits sp pg wr y.2 = false := fun hf y hy => by
        rw [take_snoc hz] at hy
        rcases List.mem_append.mp hy with hy | hy
        · exact hn y hy
        · rw [List.mem_singleton.mp hy]
          exact hf
      have hit : fits sp pg wr z.2 = true → frameM sp pg wr (zs.map Prod.snd) = some z.2.f := fun hf => by
        unfold frameM
        rw [find_at (i := i) (e := z.2) (by rw [List.getElem?_map, hz]; rfl) (fun y hy => by
          rw [← List.map_take] at hy
          obtain ⟨y', h1, rfl⟩ := List.mem_map.mp hy
          exact hn y' h1) hf]
        rfl
      have eq1 := eqv_pD (z.2.s, z.2.p) (sp, pg)
      cases e : decide ((z.2.s, z.2.p) = (sp, pg)) with
      | false =>
        rw [e] at eq1
        refine ifF eq1 (iteF ⟨_, _, _, _, rfl, eS.trans e2, next ?_⟩)
        unfold fits
        rw [e, Bool.false_and]
      | true =>
        rw [e] at eq1
        refine ifT eq1 ⟨_, rfl, _, rfl, ?_⟩
        cases ew : z.2.w with
        | true =>
          refine iteT (iteT ⟨_, rfl, ?_⟩)
          have := q _ (eS.trans e2)
          rw [hit (by unfold fits; rw [e, ew]; rfl)] at this
          exact this
        | false =>
          refine iteF ⟨_, rfl, _, rfl, ?_⟩
          cases wr with
          | false =>
            refine iteT ⟨_, rfl, ?_⟩
            have := q _ (eS.trans e2)
            rw [hit (by unfold fits; rw [e, ew]; rfl)] at this
            exact this
          | true => exact iteF ⟨_, _, _, _, rfl, eS.trans e2, next (by unfold fits; rw [e, ew]; rfl)⟩
    · rintro σ H' ⟨x4, x5, x6, x7, rfl, eS, hn⟩
      have := q H' eS
      have e0 : frameM sp pg wr (zs.map Prod.snd) = none := by
        unfold frameM
        rw [find_no]
        · rfl
        · intro y hy
          obtain ⟨y', h1, rfl⟩ := List.mem_map.mp hy
          refine hn y' ?_
          rw [List.length_map, List.take_length]
          exact h1
      rw [e0] at this
      exact this
theorem ok_Box_take (T : Txt w K mg a) : FnOk P w K mg base CX0 1 a.f_Box_take a.d_Box_take ["self"] (spBoxTake a.C_Box) := by
  refine T.F_Box_take.ok sc_Box_take (fun vs H Q E h => ?_) (fun cdv A outer s H vs Q E hr h => ?_)
  · obtain ⟨b, dx, l, zs, rfl, _⟩ := h
    rfl
  · obtain ⟨b, dx, l, zs, rfl, hB, q0, q1⟩ := h
    refine ⟨_, (pss_cons (ps_if (pt_cmpR (op_eq) (pe_callB call_len_seq (by rfl) T.b_len (by decide +kernel) (pa_cons (pe_fld (pv 0) rfl) pa_nil)) pe_int (nomark _)) (pss_one (ps_ret pe_non)) pss_nil)
    (pss_one (ps_ret (pe_bm PySem.F.plainAttrs_list PySem.F.slot_list_pop PySem.F.type_list_pop mt_popAt (pe_fld (pv 0) rfl) (pa_cons pe_int pa_nil))))), ?_⟩
    refine ⟨_, rfl, b, a.C_Box, dx, _, _, rfl, hB.ins, T.c_Box, T.n_Box__letters, rfl, l, zs, rfl, .inl (SqL.of hB.lst), rfl, _, rfl, ?_⟩
    cases zs with
    | nil => exact iteT (q0 rfl)
    | cons z r =>
      refine ite2 (fun c => ?_) (fun c => ?_)
      · simp at c
        omega
      · refine ⟨_, rfl, b, a.C_Box, dx, _, _, rfl, hB.ins, T.c_Box, T.n_Box__letters, rfl, .inl ⟨rfl, _, SqL.of hB.lst⟩, l, _, 0, 0, z, rfl, rfl, hB.lst, (by decide), (by decide), ?_, rfl, ?_⟩
        · simp [seqIndex?]
        · exact q1 z r rfl
theorem ok_Box_send (T : Txt w K mg a) : FnOk P w K mg base (L2.CX P w) 6 a.f_Box_send a.d_Box_send ["self", "letter"] (spBoxSend K a.C_Box) := by
  refine T.F_Box_send.okX sc_Box_send (fun vs H Q E h => ?_) (fun cdv A outer s H vs Q E hr h => ?_)
  · obtain ⟨b, dx, l, zs, v, d, rfl, _⟩ := h
    rfl
  · obtain ⟨b, dx, l, zs, v, d, rfl, hB, hz, hd, few, ok, q⟩ := h
    refine ⟨_, (pss_cons (ps_if (pt_not (pt_val (pe_call (ok_is_letter T) (hr.mono (by decide)) rfl T.m_is_letter T.F_is_letter.kp T.B_is_letter .nil pass0 (pa_cons (pv 1) pa_nil)))) (pss_one (ps_raise rfl (takes_of rfl rfl rfl rfl) (mk_exc0 T.x_NotValid T.xi_NotValid T.xt_NotValid (ok_PageError_init T) (hr.mono (by decide)) T.B_PageError_init pass0 rfl T.m_NotValid))) pss_nil)
    (pss_one (ps_expr (pe_bm PySem.F.plainAttrs_list PySem.F.slot_list_append PySem.F.type_list_append mt_append (pe_fld (pv 0) rfl) (pa_cons (pv 1) pa_nil))))), ?_⟩
    refine ⟨_, rfl, v, d, rfl, hd, few, fun H1 e1 => ⟨_, rfl, ?_⟩⟩
    rw [ok]
    exact iteF ⟨_, rfl, b, a.C_Box, dx, _, _, rfl, e1 _ _ hB.ins, T.c_Box, T.n_Box__letters, rfl, .inl ⟨rfl, _, SqL.of (e1 _ _ hB.lst)⟩, _, rfl, l, zs, v, rfl, rfl, e1 _ _ hB.lst, Nat.lt_of_le_of_lt hz (by decide), q H1 e1⟩

theorem ok_Memory__swap (T : Txt w K mg a) : FnOk P w K mg base CX0 1 a.f_Memory__swap a.d_Memory__swap ["self", "cell", "old", "new"] (spSwapM K ⟨a.C_Memory, a.C_Sizes, a.C_Buffer, a.C_Box⟩) := by
  refine T.F_Memory__swap.ok sc_Memory__swap (fun vs H Q E h => ?_) (fun cdv A outer s H vs Q E hr h => ?_)
  · obtain ⟨x, st, c, vo, vn, o, n, rfl, _⟩ := h
    rfl
  · obtain ⟨x, st, c, vo, vn, o, n, rfl, hM, ho, hn, ok, q⟩ := h
    refine ⟨_, (pss_cons (ps_if (pt_cmpR (op_neD hr.units) (pe_ix ix_list (pe_fld (pv 0) rfl) (pv 1) (fun _ _ => rfl)) (pv 2) (nomark _)) (pss_one (ps_ret pe_bl)) pss_nil)
    (pss_cons (ps_asg (pv 3) (pg_sub (pe_fld (pv 0) rfl) (pv 1) set_list))
    (pss_one (ps_ret pe_bl)))), ?_⟩
    obtain ⟨vs, hc, hd⟩ := hM.cells
    obtain ⟨⟨c0, c1⟩, so, nn, sn⟩ := ok
    have lv := dpAll_len hd
    obtain ⟨j, ej⟩ : ∃ j : Nat, c = (j : Int) := ⟨c.toNat, by omega⟩
    subst ej
    have hj : j < vs.length := by omega
    have hj2 : j < st.cells.length := by omega
    obtain ⟨d, h1, h2⟩ := dpAll_get hd (List.getElem?_eq_getElem hj)
    have eC : cellAt st.cells (j : Int) = d := by
      unfold cellAt
      rw [show ((j : Int)).toNat = j from rfl, h1]
      rfl
    have shD := (hM.shC d (mem_of_get h1)).2
    rw [eC] at q
    refine ⟨_, rfl, x.m, _, x.dx, _, _, rfl, hM.ins, T.c_Memory, T.n_Memory__cells, rfl, _, rfl, x.cl, _, _, _, rfl, rfl, SqL.of hc, at_nat (List.getElem?_eq_getElem hj), _, rfl, d, o, h2, ho, shD.ok, so.ok, _, rfl, ?_⟩
    cases e : PyData.eqv d o with
    | false =>
      have eR : rwCells st.cells (.swap (j : Int) o n) = st.cells := by
        show (if PyData.eqv (cellAt st.cells (j : Int)) o = true then _ else _) = _
        rw [eC, e]
        rfl
      rw [e, eR] at q
      exact iteT (q H (Keep.same (Same.refl H)) (KT.refl H) hM)
    | true =>
      have eR : rwCells st.cells (.swap (j : Int) o n) = st.cells.set j n := by
        show (if PyData.eqv (cellAt st.cells (j : Int)) o = true then _ else _) = _
        rw [eC, e]
        rfl
      rw [e, eR] at q
      have ix : ixN vs.length ((j : Nat) : Int) = some j := ixN_nat hj
      refine iteF ⟨_, rfl, _, rfl, x.m, _, x.dx, _, _, rfl, hM.ins, T.c_Memory, T.n_Memory__cells, rfl, _, rfl, x.cl, _, _, j, rfl, rfl, hc, ix, ?_⟩
      exact q _ (Keep.put (by simp)) (KT.lst hc) (set_cells hM hc hd hn nn sn)

theorem st_cell {K : PySem.W.Frag} {C : Cl4} {H : Hp} {x : MX} {s : MS} (hM : MemAt K C H x s) {c : Int} (h0 : 0 ≤ c) (h1 : c < cellsN x.p x.f x.b) : ∃ (vs : List V) (v : V) (j : Nat), H x.cl = some (.lst vs) ∧ DpAll K H vs s.cells ∧ c = (j : Int) ∧ j < vs.length ∧ vs[j]? = some v ∧ Dp K H v (cellAt s.cells c) := by
  obtain ⟨vs, hc, hd⟩ := hM.cells
  have lc := hM.lenC
  have lv := dpAll_len hd
  obtain ⟨j, rfl⟩ : ∃ j : Nat, c = (j : Int) := ⟨c.toNat, by omega⟩
  have hj : j < vs.length := by omega
  obtain ⟨d, e1, e2⟩ := dpAll_get hd (List.getElem?_eq_getElem hj)
  refine ⟨vs, vs[j], j, hc, hd, rfl, hj, List.getElem?_eq_getElem hj, ?_⟩
  unfold cellAt
  rw [show ((j : Nat) : Int).toNat = j from rfl, e1]
  exact e2
theorem st_buf {K : PySem.W.Frag} {C : Cl4} {H : Hp} {x : MX} {s : Ts} (hM : MemAt K C H x s.ms) {p : Nat} (hp : (p : Int) < x.p) : ∃ (y : Addr × Addr) (l : Addr) (zs : List (Addr × En)), x.bs[p]? = some y ∧ (x.bs.map fun y => V.ref y.1)[p]? = some (.ref y.1) ∧ BufAt C.Cb H y.1 y.2 l (zs.map aV) ∧ EnAll H zs ∧ zs.map Prod.snd = bufAt s p ∧ zs.length ≤ 2 ∧ p < s.bufs.length := by
  have l1 := hM.lenB.1
  have l2 := hM.lenB.2
  have h1 : p < x.bs.length := by omega
  have h2 : p < s.bufs.length := by
    have : s.ms.bufs.length = s.bufs.length := rfl
    omega
  have e2 := bufs_at s h2
  obtain ⟨l, zs, h3, h4, h5, _⟩ := hM.buf p _ _ (List.getElem?_eq_getElem h1) e2
  have lm := hM.lim _ (mem_of_get e2)
  exact ⟨x.bs[p], l, zs, List.getElem?_eq_getElem h1, by rw [List.getElem?_map, List.getElem?_eq_getElem h1]; rfl, h3, h4, h5, by rw [← h5, List.length_map] at lm; exact lm, h2⟩
theorem st_box {K : PySem.W.Frag} {C : Cl4} {H : Hp} {x : MX} {s : Ts} (hM : MemAt K C H x s.ms) {p : Nat} (hp : (p : Int) < x.p) : ∃ (y : Addr × Addr × Addr) (vs : List V), x.xs[p]? = some y ∧ (x.xs.map fun y => V.ref y.1)[p]? = some (.ref y.1) ∧ BoxAt C.Cx H y.1 y.2.1 y.2.2 vs ∧ DpAll K H vs ((boxAt s p).map ltD) ∧ p < s.boxes.length := by
  have l1 := hM.lenX.1
  have l2 := hM.lenX.2
  have h1 : p < x.xs.length := by omega
  have e0 : s.ms.boxes.length = s.boxes.length := List.length_map _
  have h2 : p < s.boxes.length := by omega
  obtain ⟨vs, h3, h4⟩ := hM.box p _ _ (List.getElem?_eq_getElem h1) (boxes_at s h2)
  exact ⟨x.xs[p], vs, List.getElem?_eq_getElem h1, by rw [List.getElem?_map, List.getElem?_eq_getElem h1]; rfl, h3, h4, h2⟩
theorem ok_Memory__take (T : Txt w K mg a) : FnOk P w K mg base CX0 2 a.f_Memory__take a.d_Memory__take ["self", "processor"] (spTakeM K ⟨a.C_Memory, a.C_Sizes, a.C_Buffer, a.C_Box⟩) := by
  refine T.F_Memory__take.ok sc_Memory__take (fun vs H Q E h => ?_) (fun cdv A outer s H vs Q E hr h => ?_)
  · obtain ⟨x, st, p, rfl, _⟩ := h
    rfl
  · obtain ⟨x, st, p, rfl, hM, tk, hp, q⟩ := h
    refine ⟨_, (pss_cons (ps_set (i := 2) sc_Memory__take.nd rfl (Or.inl rfl) (pe_meth0 (pe_ix ix_list (pe_fld (pv 0) rfl) (pv 1) (fun _ _ => rfl)) T.c_Box T.M_Box_take (ok_Box_take T) (hr.mono (by decide)) T.B_Box_take .nil pass0))
    (pss_cons (ps_if (pt_cmpR (op_isN) (pv 2) pe_non (by rfl)) (pss_one (ps_ret pe_bl)) pss_nil)
    (pss_cons (ps_asg (pv 2) (pg_tup rfl (pgs_cons (pg_name (i := 3) sc_Memory__take.nd rfl (Or.inl rfl)) (pgs_cons (pg_name (i := 4) sc_Memory__take.nd rfl (Or.inl rfl)) pgs_nil))))
    (pss_cons (ps_expr (pe_meth (pe_ix ix_list (pe_fld (pv 0) rfl) (pv 1) (fun _ _ => rfl)) T.c_Buffer T.M_Buffer_drop (ok_Buffer_drop T) (hr.mono (by decide)) T.B_Buffer_drop .nil pass0 (pa_cons (pv 4) pa_nil)))
    (pss_cons (ps_asg (pv 3) (pg_sub (pe_fld (pv 0) rfl) (pe_meth (pe_fld (pv 0) rfl) T.c_Sizes T.M_Sizes_acknowledge (ok_Sizes_acknowledge T) (hr.mono (by decide)) T.B_Sizes_acknowledge .nil pass0 (pa_cons (pv 1) pa_nil)) set_list))
    (pss_one (ps_ret pe_bl))))))), ?_⟩
    obtain ⟨y, vs, hy, hyv, hX, hXd, hpx⟩ := st_box hM hp
    refine ⟨_, rfl, x.m, _, x.dx, _, _, rfl, hM.ins, T.c_Memory, T.n_Memory_boxes, rfl, _, rfl, x.xl, _, _, _, rfl, rfl, SqL.of hM.xl, at_nat hyv, y.1, y.2.1, _, rfl, hX.ins, rfl, y.1, y.2.1, y.2.2, vs, rfl, hX, ?_, ?_⟩
    · rintro rfl
      cases e : boxAt st p with
      | cons l r =>
        rw [e] at hXd
        cases hXd
      | nil =>
        have e1 : runR x.p st p .take = ⟨st.cells, st.bufs, st.boxes, .bool false⟩ := by
          show takeO st p (boxAt st p) = _
          rw [e]
          rfl
        have e2 : after x.p st p .take = st := by
          unfold after
          rw [e1]
        rw [e1, e2] at q
        exact ⟨_, rfl, rfl, _, rfl, iteT (q H _ (Fr.refl x H) hM (.bl false))⟩
    · rintro z r rfl
      cases e : boxAt st p with
      | nil =>
        rw [e] at hXd
        cases hXd
      | cons l lr =>
        rw [e, List.map_cons] at hXd
        cases hXd with
        | cons hz hrd =>
        have hM1 := Tr.MemAt.setBox hM hy hrd (shs_lts lr)
        have f1 : Fr x H (upd H y.2.2 (.lst r)) := Fr.box hM hy
        have hz1 := dp_keep f1.kt (noL_lt l) hz
        generalize upd H y.2.2 (.lst r) = H1 at hM1 f1 hz1 ⊢
        have hM1' : MemAt K ⟨a.C_Memory, a.C_Sizes, a.C_Buffer, a.C_Box⟩ H1 x (Ts.ms ⟨st.n, st.cells, st.bufs, st.boxes.set p lr, st.log⟩) := by
          have e3 : (Ts.ms ⟨st.n, st.cells, st.bufs, st.boxes.set p lr, st.log⟩) = ⟨st.ms.n, st.ms.cells, st.ms.bufs, st.ms.boxes.set p (lr.map ltD), st.ms.log⟩ := by
            unfold Ts.ms
            rw [map_set]
          rw [e3]
          exact hM1
        obtain ⟨yb, l0, zs, hb, hbv, hB, hE, hzs, lz, hpb⟩ := st_buf hM1' hp
        have hbf : bufAt ⟨st.n, st.cells, st.bufs, st.boxes.set p lr, st.log⟩ p = bufAt st p := rfl
        rw [hbf] at hzs
        cases hz1 with
        | @tup t xs _ sT aT =>
        cases aT with
        | cons d0 aT =>
        cases aT with
        | @cons vp _ _ _ d1 aT =>
        cases aT
        cases d0
        refine ⟨_, rfl, rfl, _, rfl, ifF (by simp) ⟨_, rfl, t, _, rfl, sT, rfl, _, _, rfl, _, _, rfl, rfl, ?_⟩⟩
        refine ⟨_, rfl, x.m, _, x.dx, _, _, rfl, hM1.ins, T.c_Memory, T.n_Memory_buffers, rfl, _, rfl, x.bl, _, _, _, rfl, rfl, SqL.of hM1.bl, at_nat hbv, yb.1, yb.2, _, rfl, hB.ins, rfl, _, rfl, yb.1, yb.2, l0, zs, vp, l.ps, rfl, hB, hE, by omega, .inr d1, fun H2 l2 sb2 l2f hB2 => ?_⟩
        have kt2 := sb2.kt hB.ins
        have hM2 := Tr.MemAt.setBuf hM1' hb sb2 hB2 ((hE.kt kt2).filter _) l2f (Nat.le_trans (List.length_filter_le _ _) lz)
        have f2 := Fr.buf hM1' hb sb2 hB2 l2f
        have okS := okSz_at hM.okS
        obtain ⟨vc, v0, j, hc, hcd, ej, hj, hjv, _⟩ := st_cell hM2 (c := 1 + (p : Int)) (by omega) (by unfold cellsN; omega)
        refine ⟨_, rfl, _, rfl, x.m, _, x.dx, _, _, rfl, hM2.ins, T.c_Memory, T.n_Memory__cells, rfl, _, rfl, x.m, _, x.dx, _, _, rfl, hM2.ins, T.c_Memory, T.n_Memory_sizes, rfl, x.z, x.dz, _, rfl, hM2.sz, rfl, _, rfl, x.z, x.dz, x.p, x.f, x.b, _, rfl, hM2.sz, x.cl, vc, _, j, rfl, rfl, hc, ?_, ?_⟩
        · rw [ej]
          exact ixN_nat hj
        · have hM3 := set_cells (j := j) hM2 hc hcd (.int l.t) (by simp only [noL]) ((sh_int _).up (by decide))
          have f3 : Fr x H2 (upd H2 x.cl (.lst (vc.set j (.int l.t)))) := Fr.keep hM2 (Keep.put (by simp))
          have e1 : runR x.p st p .take = ⟨st.cells.set (1 + p) (.int l.t), st.bufs.set p ((bufAt st p).filter (keep l.ps)), st.boxes.set p lr, .bool true⟩ := by
            show takeO st p (boxAt st p) = _
            rw [e]
            rfl
          have e2 : (after x.p st p .take).ms = ⟨st.n, st.cells.set j (.int l.t), st.bufs.set p ((zs.filter fun z => keep l.ps z.2).map Prod.snd), (Ts.ms ⟨st.n, st.cells, st.bufs, st.boxes.set p lr, st.log⟩).boxes, st.log⟩ := by
            unfold after Ts.ms
            rw [e1, filter_snd, hzs, show j = 1 + p by omega]
          rw [e2, e1] at q
          exact q _ _ ((f1.trans f2).trans f3) hM3 (.bl true)
theorem ok_Memory__walk (T : Txt w K mg a) : FnOk P w K mg base CX0 3 a.f_Memory__walk a.d_Memory__walk ["self", "processor", "space", "page"] (spWalkM K ⟨a.C_Memory, a.C_Sizes, a.C_Buffer, a.C_Box⟩) := by
  refine T.F_Memory__walk.ok sc_Memory__walk (fun vs H Q E h => ?_) (fun cdv A outer s H vs Q E hr h => ?_)
  · obtain ⟨x, st, p, sp, g, rfl, _⟩ := h
    rfl
  · obtain ⟨x, st, p, sp, g, rfl, hM, hp, ⟨⟨⟨s0, s1⟩, ⟨g0, g1⟩⟩, xw, hw⟩, q⟩ := h
    refine ⟨_, (pss_cons (ps_set (i := 4) sc_Memory__walk.nd rfl (Or.inl rfl) (pe_ix ix_list (pe_fld (pv 0) rfl) (pe_meth (pe_fld (pv 0) rfl) T.c_Sizes T.M_Sizes_word (ok_Sizes_word T) (hr.mono (by decide)) T.B_Sizes_word .nil pass0 (pa_cons (pv 2) (pa_cons (pv 3) pa_nil))) (fun _ _ => rfl)))
    (pss_cons (ps_expr (pe_meth (pe_ix ix_list (pe_fld (pv 0) rfl) (pv 1) (fun _ _ => rfl)) T.c_Buffer T.M_Buffer_put (ok_Buffer_put T) (hr.mono (by decide)) T.B_Buffer_put .nil pass0 (pa_cons (pv 2) (pa_cons (pv 3) (pa_cons (pv 4) pa_nil)))))
    (pss_one (ps_ret (pv 4))))), ?_⟩
    have okS := okSz_at hM.okS
    obtain ⟨vc, v, j, hc, hcd, ej, hj, hjv, hv⟩ := st_cell hM (c := wordC x.p sp g) (by unfold wordC; omega) (by unfold wordC cellsN; omega)
    refine ⟨_, rfl, x.m, _, x.dx, _, _, rfl, hM.ins, T.c_Memory, T.n_Memory__cells, rfl, _, rfl, x.m, _, x.dx, _, _, rfl, hM.ins, T.c_Memory, T.n_Memory_sizes, rfl, x.z, x.dz, _, rfl, hM.sz, rfl, _, rfl, _, rfl, x.z, x.dz, x.p, x.f, x.b, _, _, rfl, hM.sz, x.cl, vc, _, v, rfl, rfl, SqL.of hc, ?_, ?_⟩
    · show atI vc (wordC x.p sp g) = some v
      rw [ej]
      exact at_nat hjv
    obtain ⟨yb, l0, zs, hb, hbv, hB, hE, hzs, lz, hpb⟩ := st_buf hM hp
    have hcw : cellAt st.ms.cells (wordC x.p sp g) = wD xw := hw
    rw [hcw] at hv
    refine ⟨_, rfl, x.m, _, x.dx, _, _, rfl, hM.ins, T.c_Memory, T.n_Memory_buffers, rfl, _, rfl, x.bl, _, _, _, rfl, rfl, SqL.of hM.bl, at_nat hbv, yb.1, yb.2, _, rfl, hB.ins, rfl, _, rfl, _, rfl, _, rfl, yb.1, yb.2, l0, zs, sp, g, v, xw, rfl, hB, hE, lz, hv, fun H2 l2 zs2 sb2 l2f hB2 hE2 hz2 => ?_⟩
    have lz2 : zs2.length ≤ 2 := by
      rw [← List.length_map (f := Prod.snd), hz2]
      exact putM_len sp g xw (by rw [List.length_map]; exact lz)
    have hM2 := Tr.MemAt.setBuf hM hb sb2 hB2 hE2 l2f lz2
    have f2 := Fr.buf hM hb sb2 hB2 l2f
    have e2 : (after x.p st p (.walk sp g)).ms = ⟨st.n, st.cells, st.bufs.set p (zs2.map Prod.snd), st.ms.boxes, st.log⟩ := by
      show (⟨st.n, st.cells, st.bufs.set p (putM sp g (wdOf (cellAt st.cells (wordC x.p sp g))) (bufAt st p)), st.boxes.map (List.map ltD), st.log⟩ : MS) = _
      rw [hw, putM_of, hz2, hzs]
      rfl
    have e3 : (runR x.p st p (.walk sp g)).val = wD xw := hw
    rw [e2, e3] at q
    exact ⟨_, rfl, q H2 v f2 hM2 (dp_keep f2.kt (by cases xw <;> simp [wD, noL, noLs]) hv)⟩
theorem ok_Memory__reached (T : Txt w K mg a) : FnOk P w K mg base CX0 2 a.f_Memory__reached a.d_Memory__reached ["self", "processor", "space", "page", "index", "writing"] (spReach K ⟨a.C_Memory, a.C_Sizes, a.C_Buffer, a.C_Box⟩) := by
  refine T.F_Memory__reached.ok sc_Memory__reached (fun vs H Q E h => ?_) (fun cdv A outer s H vs Q E hr h => ?_)
  · obtain ⟨x, st, p, sp, g, i, wr, rfl, _⟩ := h
    rfl
  · obtain ⟨x, st, p, sp, g, i, wr, rfl, hM, tk, hp, q⟩ := h
    refine ⟨_, (pss_cons (ps_set (i := 6) sc_Memory__reached.nd rfl (Or.inl rfl) (pe_meth (pe_ix ix_list (pe_fld (pv 0) rfl) (pv 1) (fun _ _ => rfl)) T.c_Buffer T.M_Buffer_frame_for (ok_Buffer_frame_for T) (hr.mono (by decide)) T.B_Buffer_frame_for .nil pass0 (pa_cons (pv 2) (pa_cons (pv 3) (pa_cons (pv 5) pa_nil)))))
    (pss_cons (ps_if (pt_cmpR (op_isN) (pv 6) pe_non (by rfl)) (pss_one (ps_ret pe_non)) pss_nil)
    (pss_one (ps_ret (pe_meth (pe_fld (pv 0) rfl) T.c_Sizes T.M_Sizes_frame_cell (ok_Sizes_frame_cell T) (hr.mono (by decide)) T.B_Sizes_frame_cell .nil pass0 (pa_cons (pv 6) (pa_cons (pv 4) pa_nil))))))), ?_⟩
    obtain ⟨yb, l0, zs, hb, hbv, hB, hE, hzs, lz, hpb⟩ := st_buf hM hp
    refine ⟨_, rfl, x.m, _, x.dx, _, _, rfl, hM.ins, T.c_Memory, T.n_Memory_buffers, rfl, _, rfl, x.bl, _, _, _, rfl, rfl, SqL.of hM.bl, at_nat hbv, yb.1, yb.2, _, rfl, hB.ins, rfl, _, rfl, _, rfl, _, rfl, yb.1, yb.2, l0, zs, sp, g, wr, rfl, hB, hE, fun H1 e1 => ?_⟩
    rw [hzs]
    have hM1 := hM.same e1
    have okS := okSz_at hM.okS
    have q1 := q H1 e1
    cases ef : frameM sp g wr (bufAt st p) with
    | none =>
      rw [ef] at q1
      exact ⟨_, rfl, rfl, _, rfl, iteT q1⟩
    | some f =>
      rw [ef] at q1
      obtain ⟨e, he, rfl⟩ := frame_in ef
      have := tk.fr _ (mem_of_get (bufs_at st hpb)) e he
      refine ⟨_, rfl, rfl, _, rfl, ifF (by simp [optV]) ⟨_, rfl, x.m, _, x.dx, _, _, rfl, hM1.ins, T.c_Memory, T.n_Memory_sizes, rfl, x.z, x.dz, _, rfl, hM1.sz, rfl, _, rfl, _, rfl, x.z, x.dz, x.p, x.f, x.b, e.f, i, rfl, hM1.sz, by omega, by omega, q1⟩⟩
theorem ok_Memory__load (T : Txt w K mg a) : FnOk P w K mg base CX0 1 a.f_Memory__load a.d_Memory__load ["self", "cell"] (spLoadM K ⟨a.C_Memory, a.C_Sizes, a.C_Buffer, a.C_Box⟩) := by
  refine T.F_Memory__load.ok sc_Memory__load (fun vs H Q E h => ?_) (fun cdv A outer s H vs Q E hr h => ?_)
  · obtain ⟨x, st, i, f, rfl, _⟩ := h
    rfl
  · obtain ⟨x, st, i, f, rfl, hM, hf, q⟩ := h
    refine ⟨_, (pss_cons (ps_if (pt_cmpR (op_isN) (pv 1) pe_non (by rfl)) (pss_one (ps_ret pe_non)) pss_nil)
    (pss_one (ps_ret (pe_tup (pa_cons (pe_ix ix_list (pe_fld (pv 0) rfl) (pv 1) (fun _ _ => rfl)) pa_nil))))), ?_⟩
    cases f with
    | none => exact ⟨_, rfl, rfl, _, rfl, iteT (q H _ (Same.refl H) .non)⟩
    | some f =>
      obtain ⟨⟨f0, f1⟩, i0, i1⟩ := hf f rfl
      have okS := okSz_at hM.okS
      obtain ⟨vc, v, j, hc, hcd, ej, hj, hjv, hv⟩ := st_cell hM (c := frameC x.p f i) (by unfold frameC; omega) (by unfold frameC cellsN; omega)
      refine ⟨_, rfl, rfl, _, rfl, ifF (by simp [optV]) ⟨_, rfl, x.m, _, x.dx, _, _, rfl, hM.ins, T.c_Memory, T.n_Memory__cells, rfl, _, rfl, x.cl, vc, _, v, rfl, rfl, SqL.of hc, ?_, (by show 1 ≤ sizeLine; decide), fun t ht => ?_⟩⟩
      · show atI vc (frameC x.p f i) = _
        rw [ej]
        exact at_nat hjv
      · exact q _ _ (Same.new ht) (.tup (SqT.of upd_same) (.cons (dp_mono (Same.new ht) hv) .nil))
theorem ok_Memory__store (T : Txt w K mg a) : FnOk P w K mg base CX0 1 a.f_Memory__store a.d_Memory__store ["self", "cell", "value"] (spStoreM K ⟨a.C_Memory, a.C_Sizes, a.C_Buffer, a.C_Box⟩) := by
  refine T.F_Memory__store.ok sc_Memory__store (fun vs H Q E h => ?_) (fun cdv A outer s H vs Q E hr h => ?_)
  · obtain ⟨x, st, i, f, v, d, rfl, _⟩ := h
    rfl
  · obtain ⟨x, st, i, f, v, d, rfl, hM, hf, hd, vk, q⟩ := h
    refine ⟨_, (pss_cons (ps_if (pt_cmpR (op_isN) (pv 1) pe_non (by rfl)) (pss_one (ps_ret pe_bl)) pss_nil)
    (pss_cons (ps_asg (pv 2) (pg_sub (pe_fld (pv 0) rfl) (pv 1) set_list))
    (pss_one (ps_ret pe_bl)))), ?_⟩
    cases f with
    | none => exact ⟨_, rfl, rfl, _, rfl, iteT (q H _ (Fr.refl x H) hM (.bl false))⟩
    | some f =>
      obtain ⟨⟨f0, f1⟩, i0, i1⟩ := hf f rfl
      have okS := okSz_at hM.okS
      obtain ⟨vc, v0, j, hc, hcd, ej, hj, hjv, hv⟩ := st_cell hM (c := frameC x.p f i) (by unfold frameC; omega) (by unfold frameC cellsN; omega)
      refine ⟨_, rfl, rfl, _, rfl, ifF (by simp [optV]) ⟨_, rfl, _, rfl, x.m, _, x.dx, _, _, rfl, hM.ins, T.c_Memory, T.n_Memory__cells, rfl, _, rfl, x.cl, vc, _, j, rfl, rfl, hc, ?_, ?_⟩⟩
      · show ixN vc.length (frameC x.p f i) = _
        rw [ej]
        exact ixN_nat hj
      · have hM2 := set_cells (j := j) hM hc hcd hd vk.no (vk.sh.up (by decide))
        have e1 : (storeO x.p st i d (some f)).cells = st.cells.set j d := by
          show st.cells.set (frameC x.p f i).toNat d = _
          rw [ej]
          rfl
        rw [e1] at q
        exact q _ _ (Fr.keep hM (Keep.put (by simp))) hM2 (.bl true)
theorem ok_Memory__change (T : Txt w K mg a) : FnOk P w K mg base CX0 2 a.f_Memory__change a.d_Memory__change ["self", "cell", "old", "new"] (spChangeM K ⟨a.C_Memory, a.C_Sizes, a.C_Buffer, a.C_Box⟩) := by
  refine T.F_Memory__change.ok sc_Memory__change (fun vs H Q E h => ?_) (fun cdv A outer s H vs Q E hr h => ?_)
  · obtain ⟨x, st, i, f, vo, vn, o, n, rfl, _⟩ := h
    rfl
  · obtain ⟨x, st, i, f, vo, vn, o, n, rfl, hM, hf, ho, vko, hn, vkn, q⟩ := h
    refine ⟨_, (pss_cons (ps_if (pt_cmpR (op_isN) (pv 1) pe_non (by rfl)) (pss_one (ps_ret pe_non)) pss_nil)
    (pss_cons (ps_if (pt_val (pe_meth (pv 0) T.c_Memory T.M_Memory__swap (ok_Memory__swap T) (hr.mono (by decide)) T.B_Memory__swap .nil pass0 (pa_cons (pv 1) (pa_cons (pv 2) (pa_cons (pv 3) pa_nil))))) (pss_one (ps_ret (pe_tup (pa_cons pe_str pa_nil)))) pss_nil)
    (pss_one (ps_ret (pe_tup (pa_cons (pe_ix ix_list (pe_fld (pv 0) rfl) (pv 1) (fun _ _ => rfl)) pa_nil)))))), ?_⟩
    cases f with
    | none => exact ⟨_, rfl, rfl, _, rfl, iteT (q H _ (Fr.refl x H) hM .non)⟩
    | some f =>
      obtain ⟨⟨f0, f1⟩, i0, i1⟩ := hf f rfl
      have okS := okSz_at hM.okS
      have c0 : 0 ≤ frameC x.p f i := by unfold frameC; omega
      have c1 : frameC x.p f i < cellsN x.p x.f x.b := by unfold frameC cellsN; omega
      have lc := hM.lenC
      refine ⟨_, rfl, rfl, _, rfl, ifF (by simp [optV]) ⟨_, rfl, x.m, x.dx, _, rfl, hM.ins, rfl, _, rfl, _, rfl, _, rfl, x, st.ms, frameC x.p f i, vo, vn, o, n, rfl, hM, ho, hn, ⟨⟨c0, by omega⟩, vko.sh.up (by decide), vkn.no, vkn.sh.up (by decide)⟩, fun H1 k1 kt1 hM1 => ⟨_, rfl, ?_⟩⟩⟩
      have f1' := Fr.keep hM k1
      have eS : rwCells st.ms.cells (.swap (frameC x.p f i) o n) = if PyData.eqv (cellAt st.ms.cells (frameC x.p f i)) o = true then st.ms.cells.set (frameC x.p f i).toNat n else st.ms.cells := rfl
      rw [eS] at hM1
      have eC : cellAt st.ms.cells (frameC x.p f i) = cellAt st.cells (frameC x.p f i) := rfl
      rw [eC] at hM1 ⊢
      cases e : PyData.eqv (cellAt st.cells (frameC x.p f i)) o with
      | true =>
        rw [e, if_pos rfl] at hM1
        have e1 : changeO x.p st i o n (some f) = ⟨st.cells.set (frameC x.p f i).toNat n, st.bufs, st.boxes, .tuple [.str "done"]⟩ := by
          exact if_pos e
        rw [e1] at q
        refine iteT ⟨(by show 1 ≤ sizeLine; decide), fun t ht => ?_⟩
        exact q _ _ (f1'.trans (Fr.same hM1 (Same.new ht))) (hM1.same (Same.new ht)) (.tup (SqT.of upd_same) (.cons (.str _) .nil))
      | false =>
        rw [e, if_neg (by simp)] at hM1
        have e1 : changeO x.p st i o n (some f) = ⟨st.cells, st.bufs, st.boxes, .tuple [cellAt st.cells (frameC x.p f i)]⟩ := by
          exact if_neg (by rw [e]; simp)
        rw [e1] at q
        obtain ⟨vc, v, j, hc, hcd, ej, hj, hjv, hv⟩ := st_cell hM1 c0 c1
        refine iteF ⟨_, rfl, x.m, _, x.dx, _, _, rfl, hM1.ins, T.c_Memory, T.n_Memory__cells, rfl, _, rfl, x.cl, vc, _, v, rfl, rfl, SqL.of hc, ?_, (by show 1 ≤ sizeLine; decide), fun t ht => ?_⟩
        · show atI vc (frameC x.p f i) = _
          rw [ej]
          exact at_nat hjv
        · exact q _ _ (f1'.trans (Fr.same hM1 (Same.new ht))) (hM1.same (Same.new ht)) (.tup (SqT.of upd_same) (.cons (dp_mono (Same.new ht) hv) .nil))

theorem after_load (P : Int) (s : Ts) (p : Nat) (sp g i : Int) : after P s p (.load sp g i) = s := by
  unfold after runR
  dsimp only
  cases frameM sp g false (bufAt s p) <;> rfl
theorem after_store (P : Int) (s : Ts) (p : Nat) (sp g i : Int) (d : PyData) : (after P s p (.store sp g i d)).ms = ⟨s.n, (storeO P s i d (frameM sp g true (bufAt s p))).cells, s.bufs, s.ms.boxes, s.log⟩ := by
  unfold after runR Ts.ms
  dsimp only
  cases frameM sp g true (bufAt s p) <;> rfl
theorem after_change (P : Int) (s : Ts) (p : Nat) (sp g i : Int) (o n : PyData) : (after P s p (.change sp g i o n)).ms = ⟨s.n, (changeO P s i o n (frameM sp g true (bufAt s p))).cells, s.bufs, s.ms.boxes, s.log⟩ := by
  unfold after runR Ts.ms
  dsimp only
  cases frameM sp g true (bufAt s p) with
  | none => rfl
  | some f =>
    unfold changeO
    dsimp only
    split <;> rfl
theorem ok_Memory__result (T : Txt w K mg a) : FnOk P w K mg base CX0 8 a.f_Memory__result a.d_Memory__result ["self", "processor", "request"] (spResM K ⟨a.C_Memory, a.C_Sizes, a.C_Buffer, a.C_Box⟩) := by
  refine T.F_Memory__result.ok sc_Memory__result (fun vs H Q E h => ?_) (fun cdv A outer s H vs Q E hr h => ?_)
  · obtain ⟨x, st, p, t, r, rfl, _⟩ := h
    rfl
  · obtain ⟨x, st, p, t, r, rfl, hM, tk, hp, hd, ok, q⟩ := h
    refine ⟨_, (pss_cons (ps_match (pv 2) (pc_cons (is := [3]) rfl sc_Memory__result.nd (.cons (i := 3) rfl (Or.inl rfl) .nil) (pss_one ps_never)
    (pc_cons (is := [3, 4]) rfl sc_Memory__result.nd (.cons (i := 3) rfl (Or.inl rfl) (.cons (i := 4) rfl (Or.inl rfl) .nil)) (pss_one (ps_asg (pv 4) (pg_sub (pe_fld (pv 0) rfl) (pv 3) set_list)))
    (pc_cons (is := [3, 5, 6]) rfl sc_Memory__result.nd (.cons (i := 3) rfl (Or.inl rfl) (.cons (i := 5) rfl (Or.inl rfl) (.cons (i := 6) rfl (Or.inl rfl) .nil))) (pss_one ps_never)
    (pc_cons (is := [7, 8]) rfl sc_Memory__result.nd (.cons (i := 7) rfl (Or.inl rfl) (.cons (i := 8) rfl (Or.inl rfl) .nil)) (pss_one (ps_expr (pe_meth (pe_ix ix_list (pe_fld (pv 0) rfl) (pv 7) (fun _ _ => rfl)) T.c_Box T.M_Box_send (ok_Box_send T) (hr.mono (by decide)) T.B_Box_send .nil passL (pa_cons (pv 8) pa_nil))))
    (pc_cons (is := []) rfl sc_Memory__result.nd .nil (pss_one (ps_ret (pe_meth (pv 0) T.c_Memory T.M_Memory__take (ok_Memory__take T) (hr.mono (by decide)) T.B_Memory__take .nil pass0 (pa_cons (pv 1) pa_nil))))
    (pc_cons (is := [9, 10]) rfl sc_Memory__result.nd (.cons (i := 9) rfl (Or.inl rfl) (.cons (i := 10) rfl (Or.inl rfl) .nil)) (pss_one (ps_ret (pe_meth (pv 0) T.c_Memory T.M_Memory__walk (ok_Memory__walk T) (hr.mono (by decide)) T.B_Memory__walk .nil pass0 (pa_cons (pv 1) (pa_cons (pv 9) (pa_cons (pv 10) pa_nil))))))
    (pc_cons (is := [9, 10, 11]) rfl sc_Memory__result.nd (.cons (i := 9) rfl (Or.inl rfl) (.cons (i := 10) rfl (Or.inl rfl) (.cons (i := 11) rfl (Or.inl rfl) .nil))) (pss_one (ps_ret (pe_meth (pv 0) T.c_Memory T.M_Memory__load (ok_Memory__load T) (hr.mono (by decide)) T.B_Memory__load .nil pass0 (pa_cons (pe_meth (pv 0) T.c_Memory T.M_Memory__reached (ok_Memory__reached T) (hr.mono (by decide)) T.B_Memory__reached .nil pass0 (pa_cons (pv 1) (pa_cons (pv 9) (pa_cons (pv 10) (pa_cons (pv 11) (pa_cons pe_bl pa_nil)))))) pa_nil))))
    (pc_cons (is := [9, 10, 11, 4]) rfl sc_Memory__result.nd (.cons (i := 9) rfl (Or.inl rfl) (.cons (i := 10) rfl (Or.inl rfl) (.cons (i := 11) rfl (Or.inl rfl) (.cons (i := 4) rfl (Or.inl rfl) .nil)))) (pss_one (ps_ret (pe_meth (pv 0) T.c_Memory T.M_Memory__store (ok_Memory__store T) (hr.mono (by decide)) T.B_Memory__store .nil pass0 (pa_cons (pe_meth (pv 0) T.c_Memory T.M_Memory__reached (ok_Memory__reached T) (hr.mono (by decide)) T.B_Memory__reached .nil pass0 (pa_cons (pv 1) (pa_cons (pv 9) (pa_cons (pv 10) (pa_cons (pv 11) (pa_cons pe_bl pa_nil)))))) (pa_cons (pv 4) pa_nil)))))
    (pc_cons (is := [9, 10, 11, 5, 6]) rfl sc_Memory__result.nd (.cons (i := 9) rfl (Or.inl rfl) (.cons (i := 10) rfl (Or.inl rfl) (.cons (i := 11) rfl (Or.inl rfl) (.cons (i := 5) rfl (Or.inl rfl) (.cons (i := 6) rfl (Or.inl rfl) .nil))))) (pss_one (ps_ret (pe_meth (pv 0) T.c_Memory T.M_Memory__change (ok_Memory__change T) (hr.mono (by decide)) T.B_Memory__change .nil pass0 (pa_cons (pe_meth (pv 0) T.c_Memory T.M_Memory__reached (ok_Memory__reached T) (hr.mono (by decide)) T.B_Memory__reached .nil pass0 (pa_cons (pv 1) (pa_cons (pv 9) (pa_cons (pv 10) (pa_cons (pv 11) (pa_cons pe_bl pa_nil)))))) (pa_cons (pv 5) (pa_cons (pv 6) pa_nil))))))
    pc_nil))))))))))
    (pss_one (ps_ret pe_non))), ?_⟩
    have bound : ∀ (sp g i : Int) (w : Bool), (0 ≤ i ∧ i < 2) → ∀ f, frameM sp g w (bufAt st p) = some f → (0 ≤ f ∧ f < x.f) ∧ (0 ≤ i ∧ i < 2) := fun sp g i w hi f ef => by
      obtain ⟨e, he, rfl⟩ := frame_in ef
      obtain ⟨yb, l0, zs, hb, hbv, hB, hE, hzs, lz, hpb⟩ := st_buf hM hp
      exact ⟨tk.fr _ (mem_of_get (bufs_at st hpb)) e he, hi⟩
    cases r with
    | write c d =>
      cases hd with
      | @tup _ xs _ sT aT =>
      cases aT with
      | cons d0 aT =>
      cases aT with
      | cons d1 aT =>
      cases aT with
      | @cons v _ _ _ d2 aT =>
      cases aT
      cases d0
      cases d1
      obtain ⟨⟨c0, c1⟩, vk⟩ := ok
      obtain ⟨vc, v0, j, hc, hcd, ej, hj, hjv, hv⟩ := st_cell hM c0 c1
      refine ⟨_, rfl, t, "write", [.int c, v], rfl, sT, fun k => absurd k.1 (by decide +kernel), fun _ => ⟨fun _ => ?_, fun k => absurd ⟨by decide +kernel, rfl⟩ k⟩⟩
      refine ⟨_, rfl, _, rfl, x.m, _, x.dx, _, _, rfl, hM.ins, T.c_Memory, T.n_Memory__cells, rfl, _, rfl, x.cl, vc, _, j, rfl, rfl, hc, ?_, ?_⟩
      · rw [ej]
        exact ixN_nat hj
      · have hM2 := set_cells (j := j) hM hc hcd d2 vk.no (vk.sh.up (by decide))
        have e1 : (after x.p st p (.write c d)).ms = ⟨st.n, st.cells.set j d, st.bufs, st.ms.boxes, st.log⟩ := by
          show (⟨st.n, st.cells.set c.toNat d, st.bufs, st.boxes.map (List.map ltD), st.log⟩ : MS) = _
          rw [ej]
          rfl
        rw [e1] at q
        exact q _ _ (Fr.keep hM (Keep.put (by simp))) hM2 .non
    | walk sp g =>
      cases hd with
      | @tup _ xs _ sT aT =>
      cases aT with
      | cons d0 aT =>
      cases aT with
      | cons d1 aT =>
      cases aT with
      | cons d2 aT =>
      cases aT
      cases d0
      cases d1
      cases d2
      refine ⟨_, rfl, t, "walk", [.int sp, .int g], rfl, sT, fun k => absurd k.1 (by decide +kernel), fun _ => ⟨fun k => absurd k.1 (by decide +kernel), fun _ => ⟨fun k => absurd k.1 (by decide +kernel), fun _ => ⟨fun k => absurd k.1 (by decide +kernel), fun _ => ⟨fun k => absurd k.1 (by decide +kernel), fun _ => ⟨fun _ => ?_, fun k => absurd ⟨by decide +kernel, rfl⟩ k⟩⟩⟩⟩⟩⟩
      exact ⟨_, rfl, x.m, x.dx, _, rfl, hM.ins, rfl, _, rfl, _, rfl, _, rfl, x, st, p, sp, g, rfl, hM, hp, ok, q⟩
    | load sp g i =>
      cases hd with
      | @tup _ xs _ sT aT =>
      cases aT with
      | cons d0 aT =>
      cases aT with
      | cons d1 aT =>
      cases aT with
      | cons d2 aT =>
      cases aT with
      | cons d3 aT =>
      cases aT
      cases d0
      cases d1
      cases d2
      cases d3
      refine ⟨_, rfl, t, "load", [.int sp, .int g, .int i], rfl, sT, fun k => absurd k.1 (by decide +kernel), fun _ => ⟨fun k => absurd k.1 (by decide +kernel), fun _ => ⟨fun k => absurd k.1 (by decide +kernel), fun _ => ⟨fun k => absurd k.1 (by decide +kernel), fun _ => ⟨fun k => absurd k.1 (by decide +kernel), fun _ => ⟨fun k => absurd k.1 (by decide +kernel), fun _ => ⟨fun _ => ?_, fun k => absurd ⟨by decide +kernel, rfl⟩ k⟩⟩⟩⟩⟩⟩⟩
      rw [after_load] at q
      exact ⟨_, rfl, x.m, x.dx, _, rfl, hM.ins, rfl, _, rfl, x.m, x.dx, _, rfl, hM.ins, rfl, _, rfl, _, rfl, _, rfl, _, rfl, x, st, p, sp, g, i, false, rfl, hM, tk, hp, fun H1 e1 => ⟨x, st, i, _, rfl, hM.same e1, bound sp g i false ok.2, fun H2 v e2 hv => q H2 v (Fr.same hM (e1.trans e2)) (hM.same (e1.trans e2)) hv⟩⟩
    | store sp g i d =>
      cases hd with
      | @tup _ xs _ sT aT =>
      cases aT with
      | cons d0 aT =>
      cases aT with
      | cons d1 aT =>
      cases aT with
      | cons d2 aT =>
      cases aT with
      | cons d3 aT =>
      cases aT with
      | @cons v _ _ _ d4 aT =>
      cases aT
      cases d0
      cases d1
      cases d2
      cases d3
      refine ⟨_, rfl, t, "store", [.int sp, .int g, .int i, v], rfl, sT, fun k => absurd k.1 (by decide +kernel), fun _ => ⟨fun k => absurd k.1 (by decide +kernel), fun _ => ⟨fun k => absurd k.1 (by decide +kernel), fun _ => ⟨fun k => absurd k.1 (by decide +kernel), fun _ => ⟨fun k => absurd k.1 (by decide +kernel), fun _ => ⟨fun k => absurd k.1 (by decide +kernel), fun _ => ⟨fun k => absurd k.1 (by decide +kernel), fun _ => ⟨fun _ => ?_, fun k => absurd ⟨by decide +kernel, rfl⟩ k⟩⟩⟩⟩⟩⟩⟩⟩
      rw [after_store] at q
      exact ⟨_, rfl, x.m, x.dx, _, rfl, hM.ins, rfl, _, rfl, x.m, x.dx, _, rfl, hM.ins, rfl, _, rfl, _, rfl, _, rfl, _, rfl, x, st, p, sp, g, i, true, rfl, hM, tk, hp, fun H1 e1 => ⟨_, rfl, x, st, i, _, v, d, rfl, hM.same e1, bound sp g i true ok.2.1, dp_mono e1 d4, ok.2.2, fun H2 u f2 hM2 hu => q H2 u ((Fr.same hM e1).trans f2) hM2 hu⟩⟩
    | change sp g i o n =>
      cases hd with
      | @tup _ xs _ sT aT =>
      cases aT with
      | cons d0 aT =>
      cases aT with
      | cons d1 aT =>
      cases aT with
      | cons d2 aT =>
      cases aT with
      | cons d3 aT =>
      cases aT with
      | @cons vo _ _ _ d4 aT =>
      cases aT with
      | @cons vn _ _ _ d5 aT =>
      cases aT
      cases d0
      cases d1
      cases d2
      cases d3
      refine ⟨_, rfl, t, "change", [.int sp, .int g, .int i, vo, vn], rfl, sT, fun k => absurd k.1 (by decide +kernel), fun _ => ⟨fun k => absurd k.1 (by decide +kernel), fun _ => ⟨fun k => absurd k.1 (by decide +kernel), fun _ => ⟨fun k => absurd k.1 (by decide +kernel), fun _ => ⟨fun k => absurd k.1 (by decide +kernel), fun _ => ⟨fun k => absurd k.1 (by decide +kernel), fun _ => ⟨fun k => absurd k.1 (by decide +kernel), fun _ => ⟨fun k => absurd k.1 (by decide +kernel), fun _ => ⟨fun _ => ?_, fun k => absurd ⟨by decide +kernel, rfl⟩ k⟩⟩⟩⟩⟩⟩⟩⟩⟩
      rw [after_change] at q
      exact ⟨_, rfl, x.m, x.dx, _, rfl, hM.ins, rfl, _, rfl, x.m, x.dx, _, rfl, hM.ins, rfl, _, rfl, _, rfl, _, rfl, _, rfl, x, st, p, sp, g, i, true, rfl, hM, tk, hp, fun H1 e1 => ⟨_, rfl, _, rfl, x, st, i, _, vo, vn, o, n, rfl, hM.same e1, bound sp g i true ok.2.1, dp_mono e1 d4, ok.2.2.1, dp_mono e1 d5, ok.2.2.2, fun H2 u f2 hM2 hu => q H2 u ((Fr.same hM e1).trans f2) hM2 hu⟩⟩
    | send to l =>
      cases hd with
      | @tup _ xs _ sT aT =>
      cases aT with
      | cons d0 aT =>
      cases aT with
      | cons d1 aT =>
      cases aT with
      | @cons v _ _ _ d2 aT =>
      cases aT
      cases d0
      cases d1
      obtain ⟨y, vs, hy, hyv, hX, hXd, hpx⟩ := st_box hM ok.1
      have lvs : vs.length ≤ 1000 := by
        rw [dpAll_len hXd, List.length_map]
        have := tk.bx _ (List.getElem_mem hpx)
        unfold boxAt
        rw [List.getElem?_eq_getElem hpx]
        exact this.1
      refine ⟨_, rfl, t, "send", [.int (to : Int), v], rfl, sT, fun k => absurd k.1 (by decide +kernel), fun _ => ⟨fun k => absurd k.1 (by decide +kernel), fun _ => ⟨fun k => absurd k.1 (by decide +kernel), fun _ => ⟨fun _ => ?_, fun k => absurd ⟨by decide +kernel, rfl⟩ k⟩⟩⟩⟩
      refine ⟨_, rfl, x.m, _, x.dx, _, _, rfl, hM.ins, T.c_Memory, T.n_Memory_boxes, rfl, _, rfl, x.xl, _, _, _, rfl, rfl, SqL.of hM.xl, at_nat hyv, y.1, y.2.1, _, rfl, hX.ins, rfl, _, rfl, y.1, y.2.1, y.2.2, vs, v, ltD l, rfl, hX, lvs, d2, few_lt ok.2.few, letter_ok ok.2, fun H1 e1 => ?_⟩
      have hM1 := hM.same e1
      have e3 : (boxAt st to).map ltD ++ [ltD l] = (boxAt st to ++ [l]).map ltD := by rw [List.map_append]; rfl
      have hM2 := Tr.MemAt.setBox hM1 hy (dpAll_app (dpAll_mono e1 hXd) (.cons (dp_mono e1 d2) .nil)) (by rw [e3]; exact shs_lts _)
      have e1' : (after x.p st p (.send to l)).ms = ⟨st.n, st.cells, st.bufs, st.ms.boxes.set to ((boxAt st to).map ltD ++ [ltD l]), st.log⟩ := by
        show (⟨st.n, st.cells, st.bufs, (st.boxes.set to (boxAt st to ++ [l])).map (List.map ltD), st.log⟩ : MS) = _
        rw [map_set, e3]
        rfl
      rw [e1'] at q
      exact q _ _ ((Fr.same hM e1).trans (Fr.box hM1 hy)) hM2 .non
    | take =>
      cases hd with
      | @tup _ xs _ sT aT =>
      cases aT with
      | cons d0 aT =>
      cases aT
      cases d0
      refine ⟨_, rfl, t, "take", [], rfl, sT, fun k => absurd k.1 (by decide +kernel), fun _ => ⟨fun k => absurd k.1 (by decide +kernel), fun _ => ⟨fun k => absurd k.1 (by decide +kernel), fun _ => ⟨fun k => absurd k.1 (by decide +kernel), fun _ => ⟨fun _ => ?_, fun k => absurd ⟨by decide +kernel, rfl⟩ k⟩⟩⟩⟩⟩
      exact ⟨_, rfl, x.m, x.dx, _, rfl, hM.ins, rfl, _, rfl, x, st, p, rfl, hM, tk, hp, q⟩
theorem run_log (P : Int) (s : Ts) (n : Nat) (l : List PyData) (p : Nat) (r : Rq) : runR P ⟨n, s.cells, s.bufs, s.boxes, l⟩ p r = runR P s p r := by
  cases r <;> rfl
theorem ok_Memory_access (T : Txt w K mg a) : FnOk P w K mg base (L2.CX P w) 9 a.f_Memory_access a.d_Memory_access ["self", "processor", "request"] (spAcc K ⟨a.C_Memory, a.C_Sizes, a.C_Buffer, a.C_Box⟩) := by
  refine T.F_Memory_access.okX sc_Memory_access (fun vs H Q E h => ?_) (fun cdv A outer s H vs Q E hr h => ?_)
  · obtain ⟨x, st, p, y, r, rfl, _⟩ := h
    rfl
  · obtain ⟨x, st, p, y, r, rfl, hM, tk, hp, hd, ok, lim, q⟩ := h
    refine ⟨_, (pss_cons (ps_if (PW.pt (pw_or (pt_not (pt_val (pe_call (ok_is_number_below T) (hr.mono (by decide)) rfl T.m_is_number_below T.F_is_number_below.kp T.B_is_number_below .nil pass0 (pa_cons (pv 1) (pa_cons (pe_fld (pe_fld (pv 0) rfl) rfl) pa_nil))))) (pw_or1 (pt_not (pt_val (pe_call (ok_is_request T) (hr.mono (by decide)) rfl T.m_is_request T.F_is_request.kp T.B_is_request .nil pass0 (pa_cons (pv 2) (pa_cons (pe_fld (pv 0) rfl) pa_nil)))))))) (pss_one (ps_raise rfl (takes_of rfl rfl rfl rfl) (mk_exc0 T.x_NotValid T.xi_NotValid T.xt_NotValid (ok_PageError_init T) (hr.mono (by decide)) T.B_PageError_init pass0 rfl T.m_NotValid))) pss_nil)
    (pss_cons (ps_fldaug (pv 0) pe_int in_add)
    (pss_cons (ps_expr (pe_bm PySem.F.plainAttrs_list PySem.F.slot_list_append PySem.F.type_list_append mt_append (pe_fld (pv 0) rfl) (pa_cons (pe_tup (pa_cons (pe_fld (pv 0) rfl) (pa_cons (pv 1) (pa_cons (pv 2) pa_nil)))) pa_nil)))
    (pss_one (ps_ret (pe_tup (pa_cons (pe_meth (pv 0) T.c_Memory T.M_Memory__result (ok_Memory__result T) (hr.mono (by decide)) T.B_Memory__result .nil pass0 (pa_cons (pv 1) (pa_cons (pv 2) pa_nil))) (pa_cons (pe_fld (pv 0) rfl) pa_nil)))))))), ?_⟩
    obtain ⟨few, nod, shd⟩ := rq_shape ok
    refine ⟨_, rfl, _, rfl, x.m, _, x.dx, _, _, rfl, hM.ins, T.c_Memory, T.n_Memory_sizes, rfl, x.z, _, x.dz, _, _, rfl, hM.sz, T.c_Sizes, T.n_Sizes_processors, rfl, _, .int (p : Int), _, rfl, .int (p : Int), _, rfl, ?_⟩
    have e : belowD (.int (p : Int)) x.p = true := below_of ⟨Int.natCast_nonneg _, hp⟩
    rw [e]
    refine iteF ⟨_, rfl, _, rfl, x.m, _, x.dx, _, _, rfl, hM.ins, T.c_Memory, T.n_Memory_sizes, rfl, y, rqD r, x.z, x.dz, x.p, x.f, x.b, rfl, hd, few, hM.sz, fun H1 e1 => ⟨_, rfl, ?_⟩⟩
    rw [req_true ok]
    have hM1 := hM.same e1
    have hd1 := dp_mono e1 hd
    obtain ⟨t, rfl⟩ : ∃ t, y = V.ref t := by
      cases r <;> cases hd1 <;> exact ⟨_, rfl⟩
    refine iteF ⟨_, rfl, x.m, a.C_Memory, x.dx, _, _, rfl, hM1.ins, T.c_Memory, T.n_Memory_count, rfl, _, _, rfl, rfl, x.dx, _, hM1.ins, (by show 6 < 1000; decide), ?_⟩
    change tSeq _ _ _ _ (upd H1 x.m (.ins a.C_Memory x.dx [("sizes", .ref x.z), ("count", .int ((st.n : Nat) + 1 : Int)), ("buffers", .ref x.bl), ("boxes", .ref x.xl), ("_cells", .ref x.cl), ("_log", .ref x.lg)]))
    have nd := hM.ndL
    simp only [List.nodup_cons, List.mem_cons, not_or] at nd
    obtain ⟨vl, hl1, hld1⟩ := hM1.log
    obtain ⟨vc, hc1, hcd1⟩ := hM1.cells
    have eN : ((st.n : Nat) + 1 : Int) = ((st.n + 1 : Nat) : Int) := by omega
    rw [eN]
    obtain ⟨H2, e2⟩ : ∃ H2, H2 = upd H1 x.m (.ins a.C_Memory x.dx [("sizes", .ref x.z), ("count", .int ((st.n + 1 : Nat))), ("buffers", .ref x.bl), ("boxes", .ref x.xl), ("_cells", .ref x.cl), ("_log", .ref x.lg)]) := ⟨_, rfl⟩
    rw [← e2]
    have hm2 : H2 x.m = some (.ins a.C_Memory x.dx [("sizes", .ref x.z), ("count", .int ((st.n + 1 : Nat))), ("buffers", .ref x.bl), ("boxes", .ref x.xl), ("_cells", .ref x.cl), ("_log", .ref x.lg)]) := by rw [e2]; exact upd_same
    have kp2 : Keep [x.m] H1 H2 := by rw [e2]; exact Keep.put (by simp)
    have kt2 : KT H1 H2 := by rw [e2]; exact KT.ins hM1.ins
    have nlm : x.lg ≠ x.m := ne_of hl1 hM1.ins (fun z => nomatch z)
    have ncm : x.cl ≠ x.m := ne_of hc1 hM1.ins (fun z => nomatch z)
    have hl2 := kp2 _ _ (by simpa using nlm) hl1
    have hc2 := kp2 _ _ (by simpa using ncm) hc1
    clear e2
    refine ⟨_, rfl, x.m, _, x.dx, _, _, rfl, hm2, T.c_Memory, T.n_Memory__log, rfl, .inl ⟨rfl, _, SqL.of hl2⟩, _, rfl, x.m, _, x.dx, _, _, rfl, hm2, T.c_Memory, T.n_Memory_count, rfl, _, rfl, _, rfl, (by show 3 ≤ sizeLine; decide), fun t3 h3 => ?_⟩
    have e3 := Same.new (o := .tup [.int ((st.n + 1 : Nat)), .int (p : Int), .ref t]) h3
    have hl3 := e3 _ _ hl2
    refine ⟨x.lg, vl, _, rfl, rfl, hl3, ?_, ?_⟩
    · have : vl.length = st.n := by rw [dpAll_len hld1]; exact hM.lenL
      rw [this]
      exact Nat.lt_of_le_of_lt lim (by decide)
    have kt4 : KT H2 (upd (upd H2 t3 (.tup [.int ((st.n + 1 : Nat)), .int (p : Int), .ref t])) x.lg (.lst (vl ++ [.ref t3]))) := (KT.of e3).trans (KT.lst hl3)
    have kp4 : Keep [x.lg] H2 (upd (upd H2 t3 (.tup [.int ((st.n + 1 : Nat)), .int (p : Int), .ref t])) x.lg (.lst (vl ++ [.ref t3]))) := (Keep.same e3).trans (Keep.put (by simp))
    have ht3 : (upd (upd H2 t3 (.tup [.int ((st.n + 1 : Nat)), .int (p : Int), .ref t])) x.lg (.lst (vl ++ [.ref t3]))) t3 = some (.tup [.int ((st.n + 1 : Nat)), .int (p : Int), .ref t]) := (upd_ne (ne_of_none hl2 h3).symm).trans upd_same
    have hl4 : (upd (upd H2 t3 (.tup [.int ((st.n + 1 : Nat)), .int (p : Int), .ref t])) x.lg (.lst (vl ++ [.ref t3]))) x.lg = some (.lst (vl ++ [.ref t3])) := upd_same
    generalize upd (upd H2 t3 (.tup [.int ((st.n + 1 : Nat)), .int (p : Int), .ref t])) x.lg (.lst (vl ++ [.ref t3])) = H4 at kt4 kp4 ht3 hl4 ⊢
    have kt14 := kt2.trans kt4
    have hd4 : Dp K H4 (.ref t) (rqD r) := dp_keep kt14 nod hd1
    have kpA : Keep [x.m, x.cl, x.lg] H1 H4 := (kp2.up (by simp)).trans (kp4.up (by simp))
    have shR : Sh 20 (logT (st.n + 1) p r) := (sh_tup (n := 6) (sh_c ((sh_int _).up (by decide)) (sh_c ((sh_int _).up (by decide)) (sh_c shd sh_n)))).up (by decide)
    have hM4 : MemAt K ⟨a.C_Memory, a.C_Sizes, a.C_Buffer, a.C_Box⟩ H4 x (Ts.ms ⟨st.n + 1, st.cells, st.bufs, st.boxes, st.log ++ [logT (st.n + 1) p r]⟩) := by
      refine hM1.re kt14 kpA (kp4 _ _ (by simpa using Ne.symm nlm) hm2) ⟨vc, kp4 _ _ (by simpa using nd.2.2.1.1) hc2, dpAll_keep kt14 hM.shC.no hcd1⟩ ⟨_, hl4, dpAll_app (dpAll_keep kt14 hM.shL.no hld1) (.cons (.tup (SqT.of ht3) (.cons (.int _) (.cons (.int _) (.cons hd4 .nil)))) .nil)⟩ rfl ?_ hM.shC ?_
      · rw [List.length_append, List.length_singleton]
        exact congrArg (· + 1) hM.lenL
      · intro d hd
        rcases List.mem_append.mp hd with hd | hd
        · exact hM.shL d hd
        · rw [List.mem_singleton.mp hd]
          refine ⟨?_, shR⟩
          simp only [logT, logD, noL, noLs, nod, Bool.and_self]
    have ok4 : RqOk x ⟨st.n + 1, st.cells, st.bufs, st.boxes, st.log ++ [logT (st.n + 1) p r]⟩ r := by
      cases r <;> exact ok
    refine ⟨_, rfl, x.m, x.dx, _, rfl, hM4.ins, rfl, _, rfl, _, rfl, x, _, p, t, r, rfl, hM4, ⟨tk.fr, tk.bx⟩, hp, hd4, ok4, fun H5 v f5 hM5 hv => ?_⟩
    unfold after at hM5
    rw [run_log] at hM5 hv
    refine ⟨_, rfl, x.m, _, x.dx, _, _, rfl, hM5.ins, T.c_Memory, T.n_Memory_count, rfl, (by show 2 ≤ sizeLine; decide), fun t6 h6 => ?_⟩
    have e6 := Same.new (o := .tup [v, .int ((st.n + 1 : Nat))]) h6
    exact q _ v t6 (((Fr.same hM e1).trans (Fr.keep hM1 kpA)).trans (f5.trans (Fr.same hM5 e6))) (hM5.same e6) upd_same (dp_mono e6 hv)

end
def spLPut (K : PySem.W.Frag) : Sp := fun vs H Q _ => ∃ (r : Addr) (ys : List (Addr × En)) (s p : Int) (y : V) (x : Wd), vs = [.ref r, .int s, .int p, y] ∧ SqL K H r (ys.map aV) ∧ EnAll H ys ∧ ys.length ≤ 2 ∧
  Dp K H y (wD x) ∧ ∀ H' r' ys', Same H H' → H r' = none → H' r' = some (.lst (ys'.map aV)) → EnAll H' ys' → ys'.map Prod.snd = putM s p x (ys.map Prod.snd) → Q (.ref r') H'
def spLFrame (K : PySem.W.Frag) : Sp := fun vs H Q _ => ∃ (r : Addr) (ys : List (Addr × En)) (s p : Int) (wr : Bool), vs = [.ref r, .int s, .int p, .bl wr] ∧ H r = some (.lst (ys.map aV)) ∧ EnAll H ys ∧
  ∀ H', Same H H' → Q (optV (frameM s p wr (ys.map Prod.snd))) H'
def spLSame (K : PySem.W.Frag) : Sp := fun vs H Q _ => ∃ (u v : V) (d : PyData), vs = [u, v] ∧ Dp K H u d ∧ Dp K H v d ∧ Sh 40 d ∧ Q (.bl true) H
section
variable {P : Program} {w : World} {K : PySem.W.Frag} {mg : Str → Option Value} {base : Heap} {a : Ad}
theorem ok__law_frame (T : Txt w K mg a) : FnOk P w K mg base CX0 1 a.f__law_frame a.d__law_frame ["rows", "space", "page", "writing"] (spLFrame K) := by
  refine T.F__law_frame.ok sc__law_frame (fun vs H Q E h => ?_) (fun cdv A outer s H vs Q E hr h => ?_)
  · obtain ⟨r, zs, s, p, wr, rfl, _⟩ := h
    rfl
  · obtain ⟨r, zs, sp, pg, wr, rfl, hB, hE, q⟩ := h
    refine ⟨_, (pss_cons (ps_for PassesOwn.never rfl (pi_list (pv 0)) (pg_name (i := 4) sc__law_frame.nd rfl (Or.inl rfl))
    (pss_one (ps_if (PW.pt (pw_and (pt_cmpR (op_eqD hr.units) (pe_slice sl_tupA (pv 4) po_none (po_some pe_int)) (pe_tup (pa_cons (pv 1) (pa_cons (pv 2) pa_nil))) (nomark _)) (pw_and1 (PW.pt (pw_or (pt_val (pe_ix ix_tup (pv 4) pe_int (fun _ _ => rfl))) (pw_or1 (pt_not (pt_val (pv 3))))))))) (pss_one (ps_ret (pe_ix ix_tup (pv 4) pe_int (fun _ _ => rfl)))) pss_nil)))
    (pss_one (ps_ret pe_non))), ?_⟩
    refine ⟨_, rfl, r, rfl, ⟨_, SqL.of hB⟩,
      for_list (K := K) (a := r) (xs := zs.map aV) (fun i σ H' => ∃ x4, σ = [some (.ref r), some (.int sp), some (.int pg), some (.bl wr), x4] ∧ Same H H' ∧ ∀ z ∈ zs.take i, fits sp pg wr z.2 = false)
      ⟨none, rfl, Same.refl H, fun _ h => absurd h (by simp)⟩ (fun i σ H' _ ⟨_, _, e, _⟩ => SqL.of (e _ _ hB)) ?_ ?_⟩
    · rintro i x σ H' hx ⟨x4, rfl, eS, hn⟩
      obtain ⟨z, hz, rfl⟩ := map_get hx
      have hzz := eS _ _ (hE z (mem_of_get hz))
      refine ⟨_, rfl, 2, rfl, z.1, eV z.2, rfl, SqT.of hzz, (fun h => absurd h.2 (by show ¬ (2 : Nat) = 4; decide)), fun _ t ht => ⟨_, rfl, _, rfl, (by show 2 ≤ sizeLine; decide), fun u hu => ?_⟩⟩
      have e2 := (Same.new (o := .tup [.int z.2.s, .int z.2.p]) ht).trans (Same.new (o := .tup [.int sp, .int pg]) hu)
      refine ⟨pD (z.2.s, z.2.p), pD (sp, pg), .tup (SqT.of ((Same.new hu) _ _ upd_same)) (.cons (.int _) (.cons (.int _) .nil)), .tup (SqT.of upd_same) (.cons (.int _) (.cons (.int _) .nil)), (shP _).ok, (shP _).ok, _, rfl, ?_⟩
      have next : fits sp pg wr z.2 = false → ∀ y ∈ zs.take (i + 1), fits sp pg wr y.2 = false := fun hf y hy => by
        rw [take_snoc hz] at hy
        rcases List.mem_append.mp hy with hy | hy
        · exact hn y hy
        · rw [List.mem_singleton.mp hy]
          exact hf
      have hit : fits sp pg wr z.2 = true → frameM sp pg wr (zs.map Prod.snd) = some z.2.f := fun hf => by
        unfold frameM
        rw [find_at (i := i) (e := z.2) (by rw [List.getElem?_map, hz]; rfl) (fun y hy => by
          rw [← List.map_take] at hy
          obtain ⟨y', h1, rfl⟩ := List.mem_map.mp hy
          exact hn y' h1) hf]
        rfl
      have hz3 := (eS.trans e2) _ _ (hE z (mem_of_get hz))
      have eq1 := eqv_pD (z.2.s, z.2.p) (sp, pg)
      cases e : decide ((z.2.s, z.2.p) = (sp, pg)) with
      | false =>
        rw [e] at eq1
        refine ifF eq1 (iteF ⟨_, rfl, eS.trans e2, next ?_⟩)
        unfold fits
        rw [e, Bool.false_and]
      | true =>
        rw [e] at eq1
        refine ifT eq1 ⟨_, rfl, z.1, eV z.2, _, _, rfl, rfl, SqT.of hz3, at_of (j := 3) rfl rfl, _, rfl, ?_⟩
        cases ew : z.2.w with
        | true =>
          refine iteT (iteT ⟨_, rfl, z.1, eV z.2, _, _, rfl, rfl, SqT.of hz3, at_of (j := 2) rfl rfl, ?_⟩)
          have := q _ (eS.trans e2)
          rw [hit (by unfold fits; rw [e, ew]; rfl)] at this
          exact this
        | false =>
          refine iteF ⟨_, rfl, _, rfl, ?_⟩
          cases wr with
          | false =>
            refine iteT ⟨_, rfl, z.1, eV z.2, _, _, rfl, rfl, SqT.of hz3, at_of (j := 2) rfl rfl, ?_⟩
            have := q _ (eS.trans e2)
            rw [hit (by unfold fits; rw [e, ew]; rfl)] at this
            exact this
          | true => exact iteF ⟨_, rfl, eS.trans e2, next (by unfold fits; rw [e, ew]; rfl)⟩
    · rintro σ H' ⟨x4, rfl, eS, hn⟩
      have := q H' eS
      have e0 : frameM sp pg wr (zs.map Prod.snd) = none := by
        unfold frameM
        rw [find_no]
        · rfl
        · intro y hy
          obtain ⟨y', h1, rfl⟩ := List.mem_map.mp hy
          refine hn y' ?_
          rw [List.length_map, List.take_length]
          exact h1
      rw [e0] at this
      exact this
theorem ok__law_put (T : Txt w K mg a) : FnOk P w K mg base CX0 1 a.f__law_put a.d__law_put ["rows", "space", "page", "word"] (spLPut K) := by
  refine T.F__law_put.ok sc__law_put (fun vs H Q E h => ?_) (fun cdv A outer s H vs Q E hr h => ?_)
  · obtain ⟨r, ys, s, p, y, x, rfl, _⟩ := h
    rfl
  · obtain ⟨r, zs, sp, pg, y, x, rfl, hR, hE, lim, hy, q⟩ := h
    refine ⟨_, (pss_cons (ps_setLc (i := 0) (own := [("row", 4)]) (g := gName 4) (tt := _) rfl sc__law_put.nd rfl rfl (sw_true rfl rfl rfl (by decide +kernel)) (pi_list (pv 0)) (blkOk_by (own := [("row", 4)]) (N := ["rows", "space", "page", "word", "row"]) (sc := defScope s__law_put) (by decide +kernel)) (fun _ _ _ _ _ => (pg_name (i := 4) sc__law_put.nd rfl (Or.inl rfl))) (fun _ _ _ _ _ => (pts_one (pt_cmpR ((op_neD hr.units : OpR _ (compareOp .NotEq) (rNeD K))) (pe_slice (sl_tupA : SlR _ (rSlA K)) (pv 4) po_none (po_some pe_int)) (pe_tup (pa_cons (pv 1) (pa_cons (pv 2) pa_nil))) (nomark _)))) (fun _ _ _ _ _ => (pv 4)))
    (pss_mid (ps_if (PW.pt (pw_and (pt_cmpR (op_notN) (pv 3) pe_non (by rfl)) (pw_and1 (pt_cmpR (op_eq) (pe_ix ix_tup (pv 3) pe_int (fun _ _ => rfl)) pe_str (nomark _))))) (pss_one (ps_set (i := 0) sc__law_put.nd rfl (Or.inl rfl) (pe_op op_cat (pv 0) (pe_lst (pa_cons (pe_tup (pa_cons (pv 1) (pa_cons (pv 2) (pa_cons (pe_ix ix_tup (pv 3) pe_int (fun _ _ => rfl)) (pa_cons (pe_ix ix_tup (pv 3) pe_int (fun _ _ => rfl)) pa_nil))))) pa_nil))))) pss_nil)
    (pss_mid (ps_if (pt_cmpR (op_gt) (pe_callB call_len_seq (by rfl) T.b_len (by decide +kernel) (pa_cons (pv 0) pa_nil)) pe_int (nomark _)) (pss_one (ps_set (i := 0) sc__law_put.nd rfl (Or.inl rfl) (pe_slice sl_list (pv 0) (po_some pe_int) po_none))) pss_nil)
    (pss_one (ps_ret (pv 0)))))), ?_⟩
    refine ⟨_, rfl, r, rfl, ⟨_, hR⟩, fun D hD => ?_⟩
    refine lc_list (K := K) (a := r) (xs := zs.map aV) (fun i H' => ∃ G, H' = upd G D (.lst (((zs.take i).filter fun z => keep [(sp, pg)] z.2).map aV)) ∧ Same H G ∧ G D = none)
      ⟨H, rfl, Same.refl H, hD⟩ (fun i H' _ ⟨G, e, eS, gD⟩ => by rw [e]; exact (Same.new gD).seq (eS.seq hR)) ?_ ?_
    · rintro i x' H' hx ⟨G, rfl, eS, gD⟩
      obtain ⟨z, hz, rfl⟩ := map_get hx
      have hzz := eS _ _ (hE z (mem_of_get hz))
      refine ⟨rfl, _, rfl, 2, rfl, z.1, eV z.2, rfl, SqT.of ((Same.new gD) _ _ hzz), (fun h => absurd h.2 (by show ¬ (2 : Nat) = 4; decide)), fun _ t ht => ⟨_, rfl, _, rfl, (by show 2 ≤ sizeLine; decide), fun u hu => ?_⟩⟩
      have ntD : t ≠ D := fun e => by rw [e, upd_same] at ht; cases ht
      have gt : G t = none := (upd_ne ntD).symm.trans ht
      have nuD : u ≠ D := fun e => by
        rw [e, upd_ne (Ne.symm ntD), upd_same] at hu
        cases hu
      have gu : upd G t (.tup [.int z.2.s, .int z.2.p]) u = none := by
        by_cases e : u = t
        · rw [e] at hu
          have : (upd (upd G D (.lst (((zs.take i).filter fun z => keep [(sp, pg)] z.2).map aV))) t (.tup [.int z.2.s, .int z.2.p])) t = none := hu
          rw [upd_same] at this
          cases this
        · rw [upd_ne e]
          have : (upd (upd G D (.lst (((zs.take i).filter fun z => keep [(sp, pg)] z.2).map aV))) t (.tup [.int z.2.s, .int z.2.p])) u = none := hu
          rw [upd_ne e, upd_ne nuD] at this
          exact this
      have eC : upd (upd (upd G D (.lst (((zs.take i).filter fun z => keep [(sp, pg)] z.2).map aV))) t (.tup [.int z.2.s, .int z.2.p])) u (.tup [.int sp, .int pg]) =
          upd (upd (upd G t (.tup [.int z.2.s, .int z.2.p])) u (.tup [.int sp, .int pg])) D (.lst (((zs.take i).filter fun z => keep [(sp, pg)] z.2).map aV)) := by
        rw [upd_comm (Ne.symm ntD), upd_comm (Ne.symm nuD)]
      have eG : Same H (upd (upd G t (.tup [.int z.2.s, .int z.2.p])) u (.tup [.int sp, .int pg])) := eS.trans ((Same.new gt).trans (Same.new gu))
      have gD2 : upd (upd G t (.tup [.int z.2.s, .int z.2.p])) u (.tup [.int sp, .int pg]) D = none := (upd_ne (Ne.symm nuD)).trans ((upd_ne (Ne.symm ntD)).trans gD)
      refine ⟨pD (z.2.s, z.2.p), pD (sp, pg), .tup (SqT.of ((Same.new hu) _ _ upd_same)) (.cons (.int _) (.cons (.int _) .nil)), .tup (SqT.of upd_same) (.cons (.int _) (.cons (.int _) .nil)), (shP _).ok, (shP _).ok, _, rfl, ?_⟩
      have ek : (!PyData.eqv (pD (z.2.s, z.2.p)) (pD (sp, pg))) = keep [(sp, pg)] z.2 := by rw [eqv_pD, keep_one]
      refine ite2 (fun c => ?_) (fun c => ?_)
      · refine ⟨_, rfl, _, (upd_ne (Ne.symm nuD)).trans ((upd_ne (Ne.symm ntD)).trans upd_same), ?_, _, ?_, eG, gD2⟩
        · rw [List.length_map]
          refine Nat.lt_of_le_of_lt (Nat.le_trans (List.length_filter_le _ _) (by rw [List.length_take]; exact Nat.le_trans (Nat.min_le_right _ _) lim)) (by decide : 2 < sizeLine)
        · rw [ek] at c
          show upd (upd (upd (upd G D _) t (.tup [.int z.2.s, .int z.2.p])) u (.tup [.int sp, .int pg])) D _ = _
          rw [eC, upd_upd, take_snoc hz, List.filter_append, List.map_append, List.filter_cons, if_pos c]
          rfl
      · refine ⟨_, ?_, eG, gD2⟩
        rw [ek] at c
        show upd (upd (upd G D _) t (.tup [.int z.2.s, .int z.2.p])) u (.tup [.int sp, .int pg]) = _
        rw [eC, take_snoc hz, List.filter_append, List.filter_cons, if_neg c, List.filter_nil, List.append_nil]
    · rintro H' ⟨G, rfl, eS, gD⟩
      rw [List.length_map, List.take_length]
      have e1 : Same H (upd G D (.lst ((zs.filter fun z => keep [(sp, pg)] z.2).map aV))) := eS.trans (Same.new gD)
      have hD1 : upd G D (.lst ((zs.filter fun z => keep [(sp, pg)] z.2).map aV)) D = some (.lst ((zs.filter fun z => keep [(sp, pg)] z.2).map aV)) := upd_same
      generalize upd G D (.lst ((zs.filter fun z => keep [(sp, pg)] z.2).map aV)) = H1 at e1 hD1 ⊢
      have hE1 : EnAll H1 (zs.filter fun z => keep [(sp, pg)] z.2) := (hE.kt (KT.of e1)).filter _
      have len1 : (zs.filter fun z => keep [(sp, pg)] z.2).length ≤ 2 := Nat.le_trans (List.length_filter_le _ _) lim
      have len0 : (zs.map Prod.snd).length ≤ 2 := by rw [List.length_map]; exact lim
      refine ⟨fun σ' H' => ∃ (r' : Addr) (ys' : List (Addr × En)), σ' = [some (.ref r'), some (.int sp), some (.int pg), some y, none] ∧ Same H H' ∧ H' r' = some (.lst (ys'.map aV)) ∧ EnAll H' ys' ∧ ys'.map Prod.snd = midM sp pg x (zs.map Prod.snd) ∧ H r' = none, ?_, ?_⟩
      · have hy1 := dp_mono e1 hy
        have stay : (∀ f w, x ≠ .frame f w) → ∃ (r' : Addr) (ys' : List (Addr × En)), [some (V.ref D), some (.int sp), some (.int pg), some y, none] = [some (.ref r'), some (.int sp), some (.int pg), some y, none] ∧ Same H H1 ∧ H1 r' = some (.lst (ys'.map aV)) ∧ EnAll H1 ys' ∧ ys'.map Prod.snd = midM sp pg x (zs.map Prod.snd) ∧ H r' = none := fun nf =>
          ⟨D, _, rfl, e1, hD1, hE1, by
            rw [filter_snd]
            cases x with
            | frame f w => exact absurd rfl (nf f w)
            | _ => rfl, hD⟩
        cases x with
        | non =>
          cases hy1
          exact ⟨_, rfl, rfl, _, rfl, iteF (stay fun _ _ z => nomatch z)⟩
        | swap n =>
          cases hy1 with
          | @tup yt xs _ sT aT =>
          cases aT with
          | cons d0 aT =>
          cases d0
          exact ⟨_, rfl, rfl, _, rfl, iteT ⟨_, rfl, yt, _, _, _, rfl, rfl, sT, at_of (j := 0) rfl rfl, rfl, _, rfl, iteF (stay fun _ _ z => nomatch z)⟩⟩
        | file =>
          cases hy1 with
          | @tup yt xs _ sT aT =>
          cases aT with
          | cons d0 aT =>
          cases d0
          exact ⟨_, rfl, rfl, _, rfl, iteT ⟨_, rfl, yt, _, _, _, rfl, rfl, sT, at_of (j := 0) rfl rfl, rfl, _, rfl, iteF (stay fun _ _ z => nomatch z)⟩⟩
        | held =>
          cases hy1 with
          | @tup yt xs _ sT aT =>
          cases aT with
          | cons d0 aT =>
          cases d0
          exact ⟨_, rfl, rfl, _, rfl, iteT ⟨_, rfl, yt, _, _, _, rfl, rfl, sT, at_of (j := 0) rfl rfl, rfl, _, rfl, iteF (stay fun _ _ z => nomatch z)⟩⟩
        | frame f wr =>
          cases hy1 with
          | @tup yt xs _ sT aT =>
          cases aT with
          | cons d0 aT =>
          cases aT with
          | cons d1 aT =>
          cases aT with
          | cons d2 aT =>
          cases aT
          cases d0
          cases d1
          cases d2
          refine ⟨_, rfl, rfl, _, rfl, iteT ⟨_, rfl, yt, _, _, _, rfl, rfl, sT, at_of (j := 0) rfl rfl, rfl, _, rfl, iteT ?_⟩⟩
          refine ⟨_, rfl, _, rfl, _, rfl, _, rfl, yt, _, _, _, rfl, rfl, sT, at_of (j := 1) rfl rfl, _, rfl, yt, _, _, _, rfl, rfl, sT, at_of (j := 2) rfl rfl, (by show 4 ≤ sizeLine; decide), fun t2 ht2 => ⟨(by show 1 ≤ sizeLine; decide), fun u2 hu2 => ?_⟩⟩
          have e2 := (Same.new (o := .tup [.int sp, .int pg, .int f, .bl wr]) ht2).trans (Same.new (o := .lst [.ref t2]) hu2)
          refine ⟨D, u2, _, _, rfl, rfl, e2 _ _ hD1, upd_same, ?_, fun r2 hr2 => ?_⟩
          · rw [List.length_map]
            exact Nat.le_trans (by show _ + 1 ≤ 10; omega) (by decide)
          · have e3 := e2.trans (Same.new (o := .lst ((zs.filter fun z => keep [(sp, pg)] z.2).map aV ++ [V.ref t2])) hr2)
            refine ⟨r2, (zs.filter fun z => keep [(sp, pg)] z.2) ++ [(t2, (⟨sp, pg, f, wr⟩ : En))], rfl, e1.trans e3, ?_, (hE1.kt (KT.of e3)).app (.one ?_), ?_, (e1.trans e2).free hr2⟩
            · rw [upd_same, List.map_append]
              rfl
            · exact ((Same.new hu2).trans (Same.new hr2)) _ _ upd_same
            · rw [List.map_append, filter_snd]
              rfl
      · rintro σ2 H2 ⟨r', ys', rfl, e2, hr', hE', em, nr⟩
        have len3 : ys'.length ≤ 3 := by
          have := midM_len sp pg x len0
          rw [← em, List.length_map] at this
          exact this
        refine ⟨fun σ' H' => ∃ (r' : Addr) (ys' : List (Addr × En)), σ' = [some (.ref r'), some (.int sp), some (.int pg), some y, none] ∧ Same H H' ∧ H' r' = some (.lst (ys'.map aV)) ∧ EnAll H' ys' ∧ ys'.map Prod.snd = putM sp pg x (zs.map Prod.snd) ∧ H r' = none, ?_, ?_⟩
        · refine ⟨_, rfl, r', _, rfl, .inl (SqL.of hr'), _, _, rfl, rfl, _, rfl, ite2 (fun c => ?_) (fun c => ?_)⟩
          · refine ⟨_, rfl, 1, rfl, r', _, rfl, SqL.of hr', fun r2 hr2 => ?_⟩
            refine ⟨r2, ys'.drop 1, rfl, e2.trans (Same.new hr2), ?_, (hE'.kt (KT.new hr2)).drop 1, ?_, e2.free hr2⟩
            · rw [upd_same, cut1, List.map_drop]
            · rw [← last2_mid sp pg x len0, ← em, List.map_drop]
              unfold last2
              rw [List.length_map] at c ⊢
              rw [if_pos (by have := of_decide_eq_true c; omega)]
          · refine ⟨r', ys', rfl, e2, hr', hE', ?_, nr⟩
            rw [← last2_mid sp pg x len0, ← em]
            unfold last2
            rw [List.length_map] at c ⊢
            rw [if_neg (fun z => c (decide_eq_true (by omega)))]
        · rintro σ3 H3 ⟨r3, ys3, rfl, e3, hr3, hE3, em3, nr3⟩
          exact ⟨_, rfl, q H3 r3 ys3 e3 nr3 hr3 hE3 em3⟩
theorem ok__law_same (T : Txt w K mg a) : FnOk P w K mg base CX0 1 a.f__law_same a.d__law_same ["told", "due"] (spLSame K) := by
  refine T.F__law_same.ok sc__law_same (fun vs H Q E h => ?_) (fun cdv A outer s H vs Q E hr h => ?_)
  · obtain ⟨u, v, d, rfl, _⟩ := h
    rfl
  · obtain ⟨u, v, d, rfl, h1, h2, sh, q⟩ := h
    refine ⟨_, (pss_one (ps_ret (pe_and (pe_cmpR (op_eq) (pe_callB call_isi (by rfl) T.b_isinstance (by decide +kernel) (pa_cons (pv 0) (pa_cons (pe_bltn (v := .ty "bool") rfl T.b_bool (by decide +kernel) rfl) pa_nil))) (pe_callB call_isi (by rfl) T.b_isinstance (by decide +kernel) (pa_cons (pv 1) (pa_cons (pe_bltn (v := .ty "bool") rfl T.b_bool (by decide +kernel) rfl) pa_nil))) (nomark _)) (pe_one (pe_cmpR (op_eqD hr.units) (pv 0) (pv 1) (nomark _)))))), ?_⟩
    refine ⟨_, rfl, _, _, _, _, _, rfl, .ty _, tyx h1, kit_bool _, _, rfl, _, _, _, _, _, rfl, .ty _, tyx h2, kit_bool _, rfl, _, rfl, ifT (by simp) ⟨_, rfl, _, rfl, d, d, h1, h2, sh.ok, sh.ok, ?_⟩⟩
    rw [sh.refl]
    exact q
end

theorem cell33 (P f i : Int) : 33 + P + 2 * f + i = frameC P f i := by unfold frameC; omega
theorem cellW (P s g : Int) : 1 + P + 8 * s + g = wordC P s g := rfl
theorem vok_wd (w : Wd) : Vok (wD w) := by
  have st : ∀ z : Str, PyData.canLay0 (.str z) = true → Sh 4 (.str z) := fun z hz => (sh_str z hz).up (by decide)
  cases w with
  | non => exact ⟨by simp only [wD, noL], sh_none.up (by decide), rfl, fun t ps e => by cases e⟩
  | frame f w => exact ⟨by simp only [wD, noL, noLs, Bool.and_self], sh_tup (sh_c (st _ (by decide +kernel)) (sh_c ((sh_int _).up (by decide)) (sh_c ((sh_bool _).up (by decide)) sh_n))), rfl, fun t ps e => by simp [wD] at e⟩
  | swap n => exact ⟨by simp only [wD, noL, noLs, Bool.and_self], sh_tup (sh_c (st _ (by decide +kernel)) (sh_c ((sh_int _).up (by decide)) sh_n)), rfl, fun t ps e => by simp [wD] at e⟩
  | file => exact ⟨by simp only [wD, noL, noLs, Bool.and_self], sh_tup (sh_c (st _ (by decide +kernel)) (sh_c ((sh_int _).up (by decide)) (sh_c ((sh_int _).up (by decide)) sh_n))), rfl, fun t ps e => by simp [wD] at e⟩
  | held => exact ⟨by simp only [wD, noL, noLs, Bool.and_self], sh_tup (sh_c (st _ (by decide +kernel)) sh_n), rfl, fun t ps e => by simp [wD] at e⟩
theorem w_cell {K : PySem.W.Frag} {C : Cl4} {H : Hp} {x : MX} {y : Wx} {s : Ts} (hM : MemAt K C H x s.ms) (hW : WAt K H x y s) {c : Int} (h0 : 0 ≤ c) (h1 : c < cellsN x.p x.f x.b) : ∃ (vs : List V) (v : V) (j : Nat), H y.h = some (.lst vs) ∧ DpAll K H vs s.cells ∧ c = (j : Int) ∧ j < vs.length ∧ vs[j]? = some v ∧ Dp K H v (cellAt s.cells c) := by
  obtain ⟨vs, hc, hd⟩ := hW.held
  have lc := hM.lenC
  have e0 : s.ms.cells = s.cells := rfl
  rw [e0] at lc
  have lv := dpAll_len hd
  obtain ⟨j, rfl⟩ : ∃ j : Nat, c = (j : Int) := ⟨c.toNat, by omega⟩
  have hj : j < vs.length := by omega
  obtain ⟨d, e1, e2⟩ := dpAll_get hd (List.getElem?_eq_getElem hj)
  refine ⟨vs, vs[j], j, hc, hd, rfl, hj, List.getElem?_eq_getElem hj, ?_⟩
  unfold cellAt
  rw [show ((j : Nat) : Int).toNat = j from rfl, e1]
  exact e2
section
variable {P : Program} {w : World} {K : PySem.W.Frag} {mg : Str → Option Value} {base : Heap} {a : Ad}
theorem ok__law_use (T : Txt w K mg a) : FnOk P w K mg base CX0 2 a.f__law_use a.d__law_use ["w", "p", "request"] (spLDue K ⟨a.C_Memory, a.C_Sizes, a.C_Buffer, a.C_Box⟩ useR) := by
  refine T.F__law_use.ok sc__law_use (fun vs H Q E h => ?_) (fun cdv A outer s H vs Q E hr h => ?_)
  · obtain ⟨x, y, st, p, t, r, rfl, _⟩ := h
    rfl
  · obtain ⟨x, y, st, p, t, r, rfl, hM, hW, tk, hp, hd, ok, al, q⟩ := h
    refine ⟨_, (pss_cons (ps_set (i := 3) sc__law_use.nd rfl (Or.inl rfl) (pe_ix ix_tup (pv 2) pe_int (fun _ _ => rfl)))
    (pss_cons (ps_set (i := 4) sc__law_use.nd rfl (Or.inl rfl) (pe_call (ok__law_frame T) (hr.mono (by decide)) rfl T.m__law_frame T.F__law_frame.kp T.B__law_frame .nil pass0 (pa_cons (pe_ix ix_list (pe_dget (hu_of hr) (pv 0) pe_str (fun _ _ => rfl)) (pv 1) (fun _ _ => rfl)) (pa_cons (pe_ix ix_tup (pv 2) pe_int (fun _ _ => rfl)) (pa_cons (pe_ix ix_tup (pv 2) pe_int (fun _ _ => rfl)) (pa_cons (pe_cmpR (op_ne) (pv 3) pe_str (nomark _)) pa_nil))))))
    (pss_cons (ps_if (pt_cmpR (op_isN) (pv 4) pe_non (by rfl)) (pss_one (ps_ret (pe_ix ix_list (pe_lst (pa_cons pe_non (pa_cons pe_bl pa_nil))) (pe_callTy call_int1 (by rfl) T.b_int (by decide +kernel) (pa_cons (pe_cmpR (op_eq) (pv 3) pe_str (nomark _)) pa_nil)) (fun _ _ => rfl)))) pss_nil)
    (pss_cons (ps_set (i := 5) sc__law_use.nd rfl (Or.inl rfl) (pe_op op_add (pe_op op_add (pe_op op_add pe_int (pe_dget (hu_of hr) (pv 0) pe_str (fun _ _ => rfl))) (pe_op op_mul pe_int (pv 4))) (pe_ix ix_tup (pv 2) pe_int (fun _ _ => rfl))))
    (pss_cons (ps_if (pt_cmpR (op_eq) (pv 3) pe_str (nomark _)) (pss_one (ps_ret (pe_tup (pa_cons (pe_ix ix_list (pe_dget (hu_of hr) (pv 0) pe_str (fun _ _ => rfl)) (pv 5) (fun _ _ => rfl)) pa_nil)))) pss_nil)
    (pss_cons (ps_if (pt_cmpR (op_eq) (pv 3) pe_str (nomark _)) (pss_cons (ps_asg (pe_ix ix_tup (pv 2) pe_int (fun _ _ => rfl)) (pg_sub (pe_dget (hu_of hr) (pv 0) pe_str (fun _ _ => rfl)) (pv 5) set_list))
    (pss_one (ps_ret pe_bl))) pss_nil)
    (pss_cons (ps_if (pt_cmpR (op_neD hr.units) (pe_ix ix_list (pe_dget (hu_of hr) (pv 0) pe_str (fun _ _ => rfl)) (pv 5) (fun _ _ => rfl)) (pe_ix ix_tup (pv 2) pe_int (fun _ _ => rfl)) (nomark _)) (pss_one (ps_ret (pe_tup (pa_cons (pe_ix ix_list (pe_dget (hu_of hr) (pv 0) pe_str (fun _ _ => rfl)) (pv 5) (fun _ _ => rfl)) pa_nil)))) pss_nil)
    (pss_cons (ps_asg (pe_ix ix_tup (pv 2) pe_int (fun _ _ => rfl)) (pg_sub (pe_dget (hu_of hr) (pv 0) pe_str (fun _ _ => rfl)) (pv 5) set_list))
    (pss_one (ps_ret (pe_tup (pa_cons pe_str pa_nil)))))))))))), ?_⟩
    obtain ⟨yb, l0, zs0, hb0, hbv0, hB0, hE0, hzs0, lz0, hpb⟩ := st_buf hM hp
    obtain ⟨as, ra, hb, hbl, hbr, hpa, zs, hz, hE, hzs, _, _⟩ := hW.row hpb
    have okS := okSz_at hM.okS
    have bound : ∀ {sp g : Int} {w : Bool} {f : Int}, frameM sp g w (bufAt st p) = some f → 0 ≤ f ∧ f < x.f := fun ef => by
      obtain ⟨e, he, rfl⟩ := frame_in ef
      exact tk.fr _ (mem_of_get (bufs_at st hpb)) e he
    have kz : ∀ {H' : Hp}, Same H H' → Keep [y.h, y.b, y.x] H H' := fun e => Keep.same e
    have nc : noLs st.cells = true := hM.shC.no
    cases r with
    | load sp g i =>
      cases hd with
      | @tup _ xs _ sT aT =>
      cases aT with
      | cons d0 aT =>
      cases aT with
      | cons d1 aT =>
      cases aT with
      | cons d2 aT =>
      cases aT with
      | cons d3 aT =>
      cases aT
      cases d0
      cases d1
      cases d2
      cases d3
      refine ⟨_, rfl, t, _, _, _, rfl, rfl, sT, at_of (j := 0) rfl rfl, ?_⟩
      refine ⟨_, rfl, y.w, _, rfl, g_bufs hW.dict, _, rfl, y.b, _, _, _, rfl, rfl, SqL.of hb, at_nat hpa, _, rfl, t, _, _, _, rfl, rfl, sT, at_of (j := 1) rfl rfl, _, rfl, t, _, _, _, rfl, rfl, sT, at_of (j := 2) rfl rfl, _, rfl, rfl, ra, zs, sp, g, _, rfl, hz, hE, fun H1 e1 => ?_⟩
      rw [show (!decide (V.str "load" = V.str "load")) = false by decide +kernel, hzs]
      have hM1 := hM.same e1
      have hW1 := hW.fr (Fr.same hM e1) nc
      have sT1 := Same.tupS e1 sT
      rw [after_load] at q
      have ev : (runR x.p st p (.load sp g i)).val = (loadO x.p st i (frameM sp g false (bufAt st p))).val := rfl
      rw [ev] at q
      cases ef : frameM sp g false (bufAt st p) with
      | none =>
        rw [ef] at q
        refine ⟨_, rfl, rfl, _, rfl, iteT ⟨(by show 2 ≤ sizeLine; decide), fun l hl => ⟨_, rfl, rfl, .inr ⟨_, rfl, l, _, _, _, rfl, rfl, SqL.of upd_same, at_of (j := 0) ?_ rfl, ?_⟩⟩⟩⟩
        · rw [show decide (V.str "load" = V.str "store") = false by decide +kernel]
          rfl
        · exact q _ _ (kz (e1.trans (Same.new hl))) (KT.of (e1.trans (Same.new hl))) (hM1.same (Same.new hl)) (hW1.fr (Fr.same hM1 (Same.new hl)) nc) .non
      | some f =>
        rw [ef] at q
        obtain ⟨f0, f1⟩ := bound ef
        obtain ⟨i0, i1⟩ := ok.2
        obtain ⟨vs, v, j, hc, hcd, ej, hj, hjv, hv⟩ := w_cell hM1 hW1 (c := frameC x.p f i) (by unfold frameC; omega) (by unfold frameC cellsN; omega)
        refine ⟨_, rfl, rfl, _, rfl, ifF (by simp [optV]) ?_⟩
        refine ⟨_, rfl, y.w, _, rfl, g_many hW1.dict, _, _, rfl, rfl, _, rfl, _, _, rfl, rfl, .inl ⟨by decide, by decide⟩, _, _, rfl, rfl, _, rfl, t, _, _, _, rfl, rfl, sT1, at_of (j := 3) rfl rfl, _, _, rfl, rfl, ?_⟩
        dsimp only
        rw [cell33]
        refine ⟨_, rfl, rfl, _, rfl, ifT (by decide +kernel) ⟨_, rfl, y.w, _, rfl, g_held hW1.dict, _, rfl, y.h, vs, _, v, rfl, rfl, SqL.of hc, (by rw [ej]; exact at_nat hjv), (by show 1 ≤ sizeLine; decide), fun t2 ht2 => ?_⟩⟩
        have e2 := e1.trans (Same.new (o := .tup [v]) ht2)
        exact q _ _ (kz e2) (KT.of e2) (hM.same e2) (hW.fr (Fr.same hM e2) nc) (.tup (SqT.of upd_same) (.cons (dp_mono (Same.new ht2) hv) .nil))
    | store sp g i d =>
      cases hd with
      | @tup _ xs _ sT aT =>
      cases aT with
      | cons d0 aT =>
      cases aT with
      | cons d1 aT =>
      cases aT with
      | cons d2 aT =>
      cases aT with
      | cons d3 aT =>
      cases aT with
      | @cons vd _ _ _ d4 aT =>
      cases aT
      cases d0
      cases d1
      cases d2
      cases d3
      refine ⟨_, rfl, t, _, _, _, rfl, rfl, sT, at_of (j := 0) rfl rfl, ?_⟩
      refine ⟨_, rfl, y.w, _, rfl, g_bufs hW.dict, _, rfl, y.b, _, _, _, rfl, rfl, SqL.of hb, at_nat hpa, _, rfl, t, _, _, _, rfl, rfl, sT, at_of (j := 1) rfl rfl, _, rfl, t, _, _, _, rfl, rfl, sT, at_of (j := 2) rfl rfl, _, rfl, rfl, ra, zs, sp, g, _, rfl, hz, hE, fun H1 e1 => ?_⟩
      rw [show (!decide (V.str "store" = V.str "load")) = true by decide +kernel, hzs]
      have hM1 := hM.same e1
      have hW1 := hW.fr (Fr.same hM e1) nc
      have sT1 := Same.tupS e1 sT
      have ev : ∀ f, frameM sp g true (bufAt st p) = f → after x.p st p (.store sp g i d) = ⟨st.n, (storeO x.p st i d f).cells, st.bufs, st.boxes, st.log⟩ ∧ (runR x.p st p (.store sp g i d)).val = (storeO x.p st i d f).val := fun f ef => by
        unfold after runR
        dsimp only
        rw [ef]
        cases f <;> exact ⟨rfl, rfl⟩
      cases ef : frameM sp g true (bufAt st p) with
      | none =>
        obtain ⟨ev1, ev2⟩ := ev _ ef
        rw [ev1, ev2] at q
        refine ⟨_, rfl, rfl, _, rfl, iteT ⟨(by show 2 ≤ sizeLine; decide), fun l hl => ⟨_, rfl, rfl, .inr ⟨_, rfl, l, _, _, _, rfl, rfl, SqL.of upd_same, at_of (j := 1) ?_ rfl, ?_⟩⟩⟩⟩
        · rw [show decide (V.str "store" = V.str "store") = true by decide +kernel]
          rfl
        · exact q _ _ (kz (e1.trans (Same.new hl))) (KT.of (e1.trans (Same.new hl))) (hM1.same (Same.new hl)) (hW1.fr (Fr.same hM1 (Same.new hl)) nc) (.bl false)
      | some f =>
        obtain ⟨ev1, ev2⟩ := ev _ ef
        rw [ev1, ev2] at q
        obtain ⟨f0, f1⟩ := bound ef
        obtain ⟨_, ⟨i0, i1⟩, vk⟩ := ok
        obtain ⟨vs, v, j, hc, hcd, ej, hj, hjv, hv⟩ := w_cell hM1 hW1 (c := frameC x.p f i) (by unfold frameC; omega) (by unfold frameC cellsN; omega)
        refine ⟨_, rfl, rfl, _, rfl, ifF (by simp [optV]) ?_⟩
        refine ⟨_, rfl, y.w, _, rfl, g_many hW1.dict, _, _, rfl, rfl, _, rfl, _, _, rfl, rfl, .inl ⟨by decide, by decide⟩, _, _, rfl, rfl, _, rfl, t, _, _, _, rfl, rfl, sT1, at_of (j := 3) rfl rfl, _, _, rfl, rfl, ?_⟩
        dsimp only
        rw [cell33]
        refine ⟨_, rfl, rfl, _, rfl, ifF (by decide +kernel) ⟨_, rfl, rfl, _, rfl, ifT (by decide +kernel) ⟨_, rfl, t, _, _, _, rfl, rfl, sT1, at_of (j := 4) rfl rfl, _, rfl, y.w, _, rfl, g_held hW1.dict, _, rfl, y.h, vs, _, j, rfl, rfl, hc, (by rw [ej]; exact ixN_nat hj), ?_⟩⟩⟩
        have hW2 := hW1.setH hM1 hc hcd (dp_mono e1 d4) vk.no j
        have e3 : (storeO x.p st i d (some f)).cells = st.cells.set j d := by
          show st.cells.set (frameC x.p f i).toNat d = _
          rw [ej]
          rfl
        rw [e3] at q
        exact q _ _ ((Keep.same e1).trans (Keep.put (by simp))) ((KT.of e1).trans (KT.lst hc)) (Ak.MemAt.aside hM1 hc hW1.oh) hW2 (.bl true)
    | change sp g i o n =>
      cases hd with
      | @tup _ xs _ sT aT =>
      cases aT with
      | cons d0 aT =>
      cases aT with
      | cons d1 aT =>
      cases aT with
      | cons d2 aT =>
      cases aT with
      | cons d3 aT =>
      cases aT with
      | @cons vo _ _ _ d4 aT =>
      cases aT with
      | @cons vn _ _ _ d5 aT =>
      cases aT
      cases d0
      cases d1
      cases d2
      cases d3
      refine ⟨_, rfl, t, _, _, _, rfl, rfl, sT, at_of (j := 0) rfl rfl, ?_⟩
      refine ⟨_, rfl, y.w, _, rfl, g_bufs hW.dict, _, rfl, y.b, _, _, _, rfl, rfl, SqL.of hb, at_nat hpa, _, rfl, t, _, _, _, rfl, rfl, sT, at_of (j := 1) rfl rfl, _, rfl, t, _, _, _, rfl, rfl, sT, at_of (j := 2) rfl rfl, _, rfl, rfl, ra, zs, sp, g, _, rfl, hz, hE, fun H1 e1 => ?_⟩
      rw [show (!decide (V.str "change" = V.str "load")) = true by decide +kernel, hzs]
      have hM1 := hM.same e1
      have hW1 := hW.fr (Fr.same hM e1) nc
      have sT1 := Same.tupS e1 sT
      have ev : ∀ f, frameM sp g true (bufAt st p) = f → after x.p st p (.change sp g i o n) = ⟨st.n, (changeO x.p st i o n f).cells, st.bufs, st.boxes, st.log⟩ ∧ (runR x.p st p (.change sp g i o n)).val = (changeO x.p st i o n f).val := fun f ef => by
        unfold after runR
        dsimp only
        rw [ef]
        cases f with
        | none => exact ⟨rfl, rfl⟩
        | some f =>
          refine ⟨?_, rfl⟩
          unfold changeO
          dsimp only
          split <;> rfl
      cases ef : frameM sp g true (bufAt st p) with
      | none =>
        obtain ⟨ev1, ev2⟩ := ev _ ef
        rw [ev1, ev2] at q
        refine ⟨_, rfl, rfl, _, rfl, iteT ⟨(by show 2 ≤ sizeLine; decide), fun l hl => ⟨_, rfl, rfl, .inr ⟨_, rfl, l, _, _, _, rfl, rfl, SqL.of upd_same, at_of (j := 0) ?_ rfl, ?_⟩⟩⟩⟩
        · rw [show decide (V.str "change" = V.str "store") = false by decide +kernel]
          rfl
        · exact q _ _ (kz (e1.trans (Same.new hl))) (KT.of (e1.trans (Same.new hl))) (hM1.same (Same.new hl)) (hW1.fr (Fr.same hM1 (Same.new hl)) nc) .non
      | some f =>
        obtain ⟨ev1, ev2⟩ := ev _ ef
        rw [ev1, ev2] at q
        obtain ⟨f0, f1⟩ := bound ef
        obtain ⟨_, ⟨i0, i1⟩, vko, vkn⟩ := ok
        obtain ⟨vs, v, j, hc, hcd, ej, hj, hjv, hv⟩ := w_cell hM1 hW1 (c := frameC x.p f i) (by unfold frameC; omega) (by unfold frameC cellsN; omega)
        refine ⟨_, rfl, rfl, _, rfl, ifF (by simp [optV]) ?_⟩
        refine ⟨_, rfl, y.w, _, rfl, g_many hW1.dict, _, _, rfl, rfl, _, rfl, _, _, rfl, rfl, .inl ⟨by decide, by decide⟩, _, _, rfl, rfl, _, rfl, t, _, _, _, rfl, rfl, sT1, at_of (j := 3) rfl rfl, _, _, rfl, rfl, ?_⟩
        dsimp only
        rw [cell33]
        have shv : Sh 20 (cellAt st.cells (frameC x.p f i)) := by
          obtain ⟨d9, e9, _⟩ := dpAll_get hcd hjv
          have : cellAt st.cells (frameC x.p f i) = d9 := by
            unfold cellAt
            rw [ej, show ((j : Nat) : Int).toNat = j from rfl, e9]
            rfl
          rw [this]
          exact (hM.shC _ (mem_of_get e9)).2
        refine ⟨_, rfl, rfl, _, rfl, ifF (by decide +kernel) ⟨_, rfl, rfl, _, rfl, ifF (by decide +kernel) ⟨_, rfl, y.w, _, rfl, g_held hW1.dict, _, rfl, y.h, vs, _, v, rfl, rfl, SqL.of hc, (by rw [ej]; exact at_nat hjv), _, rfl, t, _, _, _, rfl, rfl, sT1, at_of (j := 4) rfl rfl, _, o, hv, dp_mono e1 d4, shv.ok, vko.sh.ok, _, rfl, ?_⟩⟩⟩
        cases e : PyData.eqv (cellAt st.cells (frameC x.p f i)) o with
        | false =>
          have e5 : changeO x.p st i o n (some f) = ⟨st.cells, st.bufs, st.boxes, .tuple [cellAt st.cells (frameC x.p f i)]⟩ := if_neg (by rw [e]; simp)
          rw [e5] at q
          refine iteT ⟨_, rfl, y.w, _, rfl, g_held hW1.dict, _, rfl, y.h, vs, _, v, rfl, rfl, SqL.of hc, (by rw [ej]; exact at_nat hjv), (by show 1 ≤ sizeLine; decide), fun t2 ht2 => ?_⟩
          have e2 := e1.trans (Same.new (o := .tup [v]) ht2)
          exact q _ _ (kz e2) (KT.of e2) (hM.same e2) (hW.fr (Fr.same hM e2) nc) (.tup (SqT.of upd_same) (.cons (dp_mono (Same.new ht2) hv) .nil))
        | true =>
          have e5 : changeO x.p st i o n (some f) = ⟨st.cells.set (frameC x.p f i).toNat n, st.bufs, st.boxes, .tuple [.str "done"]⟩ := if_pos e
          rw [e5] at q
          refine iteF ⟨_, rfl, t, _, _, _, rfl, rfl, sT1, at_of (j := 5) rfl rfl, _, rfl, y.w, _, rfl, g_held hW1.dict, _, rfl, y.h, vs, _, j, rfl, rfl, hc, (by rw [ej]; exact ixN_nat hj), ?_⟩
          have hM2 := Ak.MemAt.aside (ws := vs.set j vn) hM1 hc hW1.oh
          have hW2 := hW1.setH hM1 hc hcd (dp_mono e1 d5) vkn.no j
          refine ⟨(by show 1 ≤ sizeLine; decide), fun t2 ht2 => ?_⟩
          have e6 : st.cells.set (frameC x.p f i).toNat n = st.cells.set j n := by
            rw [ej]
            rfl
          dsimp only at q
          rw [e6] at q
          have nc2 : noLs (st.cells.set j n) = true := noLs_of fun d hd => by
            rcases List.mem_or_eq_of_mem_set hd with hd | rfl
            · exact (hM.shC d hd).1
            · exact vkn.no
          exact q _ _ (((Keep.same e1).trans (Keep.put (by simp))).trans (Keep.same (Same.new ht2))) (((KT.of e1).trans (KT.lst hc)).trans (KT.new ht2)) (hM2.same (Same.new ht2)) (hW2.fr (Fr.same hM2 (Same.new ht2)) nc2) (.tup (SqT.of upd_same) (.cons (.str _) .nil))
    | write c d => exact al.elim
    | walk sp g => exact al.elim
    | send to l => exact al.elim
    | take => exact al.elim
end

section
variable {P : Program} {w : World} {K : PySem.W.Frag} {mg : Str → Option Value} {base : Heap} {a : Ad}
theorem ok__law_due (T : Txt w K mg a) : FnOk P w K mg base CX0 3 a.f__law_due a.d__law_due ["w", "p", "request"] (spLDue K ⟨a.C_Memory, a.C_Sizes, a.C_Buffer, a.C_Box⟩ fun _ => True) := by
  refine T.F__law_due.ok sc__law_due (fun vs H Q E h => ?_) (fun cdv A outer s H vs Q E hr h => ?_)
  · obtain ⟨x, y, st, p, t, r, rfl, _⟩ := h
    rfl
  · obtain ⟨x, y, st, p, t, r, rfl, hM, hW, tk, hp, hd, ok, _, q⟩ := h
    refine ⟨_, (pss_cons (ps_set (i := 3) sc__law_due.nd rfl (Or.inl rfl) (pe_ix ix_tup (pv 2) pe_int (fun _ _ => rfl)))
    (pss_cons (ps_if (pt_cmpR (op_eq) (pv 3) pe_str (nomark _)) (pss_cons (ps_asg (pe_ix ix_tup (pv 2) pe_int (fun _ _ => rfl)) (pg_sub (pe_dget (hu_of hr) (pv 0) pe_str (fun _ _ => rfl)) (pe_ix ix_tup (pv 2) pe_int (fun _ _ => rfl)) set_list))
    (pss_one (ps_ret pe_non))) pss_nil)
    (pss_cons (ps_if (pt_cmpR (op_eq) (pv 3) pe_str (nomark _)) (pss_cons (ps_set (i := 4) sc__law_due.nd rfl (Or.inl rfl) (pe_ix ix_list (pe_dget (hu_of hr) (pv 0) pe_str (fun _ _ => rfl)) (pe_op op_add (pe_op op_add (pe_op op_add pe_int (pe_dget (hu_of hr) (pv 0) pe_str (fun _ _ => rfl))) (pe_op op_mul pe_int (pe_ix ix_tup (pv 2) pe_int (fun _ _ => rfl)))) (pe_ix ix_tup (pv 2) pe_int (fun _ _ => rfl))) (fun _ _ => rfl)))
    (pss_cons (ps_asg (pe_call (ok__law_put T) (hr.mono (by decide)) rfl T.m__law_put T.F__law_put.kp T.B__law_put .nil pass0 (pa_cons (pe_ix ix_list (pe_dget (hu_of hr) (pv 0) pe_str (fun _ _ => rfl)) (pv 1) (fun _ _ => rfl)) (pa_cons (pe_ix ix_tup (pv 2) pe_int (fun _ _ => rfl)) (pa_cons (pe_ix ix_tup (pv 2) pe_int (fun _ _ => rfl)) (pa_cons (pv 4) pa_nil))))) (pg_sub (pe_dget (hu_of hr) (pv 0) pe_str (fun _ _ => rfl)) (pv 1) set_list))
    (pss_one (ps_ret (pv 4))))) pss_nil)
    (pss_cons (ps_if (pt_cmpR (op_eq) (pv 3) pe_str (nomark _)) (pss_cons (ps_asg (pe_op op_cat (pe_ix ix_list (pe_dget (hu_of hr) (pv 0) pe_str (fun _ _ => rfl)) (pe_ix ix_tup (pv 2) pe_int (fun _ _ => rfl)) (fun _ _ => rfl)) (pe_lst (pa_cons (pe_ix ix_tup (pv 2) pe_int (fun _ _ => rfl)) pa_nil))) (pg_sub (pe_dget (hu_of hr) (pv 0) pe_str (fun _ _ => rfl)) (pe_ix ix_tup (pv 2) pe_int (fun _ _ => rfl)) set_list))
    (pss_one (ps_ret pe_non))) pss_nil)
    (pss_cons (ps_if (pt_cmpR (op_eq) (pv 3) pe_str (nomark _)) (pss_cons (ps_if (pt_cmpR (op_eqD hr.units) (pe_ix ix_list (pe_dget (hu_of hr) (pv 0) pe_str (fun _ _ => rfl)) (pv 1) (fun _ _ => rfl)) (pe_lst pa_nil) (nomark _)) (pss_one (ps_ret pe_bl)) pss_nil)
    (pss_cons (ps_asg (pe_ix ix_list (pe_ix ix_list (pe_dget (hu_of hr) (pv 0) pe_str (fun _ _ => rfl)) (pv 1) (fun _ _ => rfl)) pe_int (fun _ _ => rfl)) (pg_tup rfl (pgs_cons (pg_name (i := 5) sc__law_due.nd rfl (Or.inl rfl)) (pgs_cons (pg_name (i := 6) sc__law_due.nd rfl (Or.inr rfl)) pgs_nil))))
    (pss_cons (ps_asg (pe_slice sl_list (pe_ix ix_list (pe_dget (hu_of hr) (pv 0) pe_str (fun _ _ => rfl)) (pv 1) (fun _ _ => rfl)) (po_some pe_int) po_none) (pg_sub (pe_dget (hu_of hr) (pv 0) pe_str (fun _ _ => rfl)) (pv 1) set_list))
    (pss_cons (ps_asg (pe_lc (own := [("row", 7)]) (g := gName 7) (tt := _) rfl sc__law_due.nd (pi_list (pe_ix ix_list (pe_dget (hu_of hr) (pv 0) pe_str (fun _ _ => rfl)) (pv 1) (fun _ _ => rfl))) (blkOk_by (own := [("row", 7)]) (N := ["w", "p", "request", "kind", "word", "ticket", "pairs", "row"]) (sc := defScope s__law_due) (by decide +kernel)) (fun _ _ _ _ _ => (pg_name (i := 7) sc__law_due.nd rfl (Or.inl rfl))) (fun _ _ _ _ _ => (pts_one (pt_cmpR ((op_niD (hu65 hr) : OpR _ (compareOp .NotIn) (rNiD K))) (pe_slice (sl_tupA : SlR _ (rSlA K)) (pv 7) po_none (po_some pe_int)) (pv 6) rfl))) (fun _ _ _ _ _ => (pv 7))) (pg_sub (pe_dget (hu_of hr) (pv 0) pe_str (fun _ _ => rfl)) (pv 1) set_list))
    (pss_cons (ps_asg (pv 5) (pg_sub (pe_dget (hu_of hr) (pv 0) pe_str (fun _ _ => rfl)) (pe_op op_add pe_int (pv 1)) set_list))
    (pss_one (ps_ret pe_bl))))))) pss_nil)
    (pss_one (ps_ret (pe_call (ok__law_use T) (hr.mono (by decide)) rfl T.m__law_use T.F__law_use.kp T.B__law_use .nil pass0 (pa_cons (pv 0) (pa_cons (pv 1) (pa_cons (pv 2) pa_nil))))))))))), ?_⟩
    have okS := okSz_at hM.okS
    have nc : noLs st.cells = true := hM.shC.no
    have useAll : useR r → ∀ (e0 : ∀ z, SqT K H t z → True), spLDue K ⟨a.C_Memory, a.C_Sizes, a.C_Buffer, a.C_Box⟩ useR [.ref y.w, .int (p : Int), .ref t] H Q E := fun hu _ => ⟨x, y, st, p, t, r, rfl, hM, hW, tk, hp, hd, ok, hu, q⟩
    cases r with
    | load sp g i =>
      have hd' := hd
      cases hd with
      | @tup _ xs _ sT aT =>
      cases aT with
      | cons d0 aT =>
      cases d0
      refine ⟨_, rfl, t, _, _, _, rfl, rfl, sT, at_of (j := 0) rfl rfl, ?_⟩
      refine ⟨_, rfl, rfl, _, rfl, ifF (by decide +kernel) ⟨_, rfl, rfl, _, rfl, ifF (by decide +kernel) ⟨_, rfl, rfl, _, rfl, ifF (by decide +kernel) ⟨_, rfl, rfl, _, rfl, ifF (by decide +kernel) ?_⟩⟩⟩⟩
      exact ⟨_, rfl, _, rfl, _, rfl, x, y, st, p, t, _, rfl, hM, hW, tk, hp, hd', ok, True.intro, q⟩
    | store sp g i d =>
      have hd' := hd
      cases hd with
      | @tup _ xs _ sT aT =>
      cases aT with
      | cons d0 aT =>
      cases d0
      refine ⟨_, rfl, t, _, _, _, rfl, rfl, sT, at_of (j := 0) rfl rfl, ?_⟩
      refine ⟨_, rfl, rfl, _, rfl, ifF (by decide +kernel) ⟨_, rfl, rfl, _, rfl, ifF (by decide +kernel) ⟨_, rfl, rfl, _, rfl, ifF (by decide +kernel) ⟨_, rfl, rfl, _, rfl, ifF (by decide +kernel) ?_⟩⟩⟩⟩
      exact ⟨_, rfl, _, rfl, _, rfl, x, y, st, p, t, _, rfl, hM, hW, tk, hp, hd', ok, True.intro, q⟩
    | change sp g i o n =>
      have hd' := hd
      cases hd with
      | @tup _ xs _ sT aT =>
      cases aT with
      | cons d0 aT =>
      cases d0
      refine ⟨_, rfl, t, _, _, _, rfl, rfl, sT, at_of (j := 0) rfl rfl, ?_⟩
      refine ⟨_, rfl, rfl, _, rfl, ifF (by decide +kernel) ⟨_, rfl, rfl, _, rfl, ifF (by decide +kernel) ⟨_, rfl, rfl, _, rfl, ifF (by decide +kernel) ⟨_, rfl, rfl, _, rfl, ifF (by decide +kernel) ?_⟩⟩⟩⟩
      exact ⟨_, rfl, _, rfl, _, rfl, x, y, st, p, t, _, rfl, hM, hW, tk, hp, hd', ok, True.intro, q⟩
    | write c d =>
      cases hd with
      | @tup _ xs _ sT aT =>
      cases aT with
      | cons d0 aT =>
      cases aT with
      | cons d1 aT =>
      cases aT with
      | @cons v _ _ _ d2 aT =>
      cases aT
      cases d0
      cases d1
      obtain ⟨⟨c0, c1⟩, vk⟩ := ok
      obtain ⟨vs, v0, j, hc, hcd, ej, hj, hjv, hv⟩ := w_cell hM hW c0 c1
      refine ⟨_, rfl, t, _, _, _, rfl, rfl, sT, at_of (j := 0) rfl rfl, ?_⟩
      refine ⟨_, rfl, rfl, _, rfl, ifT (by decide +kernel) ⟨_, rfl, t, _, _, _, rfl, rfl, sT, at_of (j := 2) rfl rfl, _, rfl, y.w, _, rfl, g_held hW.dict, _, rfl, t, _, _, _, rfl, rfl, sT, at_of (j := 1) rfl rfl, y.h, vs, _, j, rfl, rfl, hc, (by rw [ej]; exact ixN_nat hj), ?_⟩⟩
      have hW2 := hW.setH hM hc hcd d2 vk.no j
      have e1 : after x.p st p (.write c d) = ⟨st.n, st.cells.set j d, st.bufs, st.boxes, st.log⟩ := by
        show (⟨st.n, st.cells.set c.toNat d, st.bufs, st.boxes, st.log⟩ : Ts) = _
        rw [ej]
        rfl
      rw [e1] at q
      exact q _ _ (Keep.put (by simp)) (KT.lst hc) (Ak.MemAt.aside hM hc hW.oh) hW2 .non
    | walk sp g =>
      cases hd with
      | @tup _ xs _ sT aT =>
      cases aT with
      | cons d0 aT =>
      cases aT with
      | cons d1 aT =>
      cases aT with
      | cons d2 aT =>
      cases aT
      cases d0
      cases d1
      cases d2
      obtain ⟨⟨⟨s0, s1⟩, ⟨g0, g1⟩⟩, xw, hw⟩ := ok
      obtain ⟨vs, v, j, hc, hcd, ej, hj, hjv, hv⟩ := w_cell hM hW (c := wordC x.p sp g) (by unfold wordC; omega) (by unfold wordC cellsN; omega)
      rw [hw] at hv
      obtain ⟨yb, l0, zs0, hb0, hbv0, hB0, hE0, hzs0, lz0, hpb⟩ := st_buf hM hp
      obtain ⟨as, ra, hb, hbl, hbr, hpa, zs, hz, hE, hzs, _, _⟩ := hW.row hpb
      refine ⟨_, rfl, t, _, _, _, rfl, rfl, sT, at_of (j := 0) rfl rfl, ?_⟩
      refine ⟨_, rfl, rfl, _, rfl, ifF (by decide +kernel) ⟨_, rfl, rfl, _, rfl, ifT (by decide +kernel) ?_⟩⟩
      refine ⟨_, rfl, y.w, _, rfl, g_held hW.dict, _, rfl, y.w, _, rfl, g_many hW.dict, _, _, rfl, rfl, _, rfl, t, _, _, _, rfl, rfl, sT, at_of (j := 1) rfl rfl, _, _, rfl, rfl, .inl ⟨by decide, by decide⟩, _, _, rfl, rfl, _, rfl, t, _, _, _, rfl, rfl, sT, at_of (j := 2) rfl rfl, _, _, rfl, rfl, y.h, vs, _, v, rfl, rfl, SqL.of hc, ?_, ?_⟩
      · show atI vs (wordC x.p sp g) = some v
        rw [ej]
        exact at_nat hjv
      have lzs : zs.length ≤ 2 := by
        rw [← List.length_map (f := Prod.snd), hzs, ← hzs0, List.length_map]
        exact lz0
      refine ⟨_, rfl, y.w, _, rfl, g_bufs hW.dict, _, rfl, y.b, _, _, _, rfl, rfl, SqL.of hb, at_nat hpa, _, rfl, t, _, _, _, rfl, rfl, sT, at_of (j := 1) rfl rfl, _, rfl, t, _, _, _, rfl, rfl, sT, at_of (j := 2) rfl rfl, _, rfl, ra, zs, sp, g, v, xw, rfl, SqL.of hz, hE, lzs, hv, fun H1 r' ys' e1 nr hr' hE' hy' => ?_⟩
      have hM1 := hM.same e1
      have f1 := Fr.same hM e1
      have hW1 := hW.fr f1 nc
      refine ⟨_, rfl, y.w, _, rfl, g_bufs hW1.dict, _, rfl, y.b, _, _, p, rfl, rfl, e1 _ _ hb, ixN_nat (by rw [List.length_map]; omega), ?_⟩
      have row : Row H1 x y r' (putM sp g xw (bufAt st p)) := ⟨ys', hr', hE', by rw [hy', hzs], (Off.fresh hM nr).same hM e1, fresh_apt hW nr⟩
      have hW2 := hW1.setB hM1 (e1 _ _ hb) hbl (fun i b es h1 h2 => (hbr i b es h1 h2).mv (fun q vs hq o _ => f1.lst hq o) f1.kt) row p
      have e2 : after x.p st p (.walk sp g) = ⟨st.n, st.cells, st.bufs.set p (putM sp g xw (bufAt st p)), st.boxes, st.log⟩ := by
        show (⟨st.n, st.cells, st.bufs.set p (putM sp g (wdOf (cellAt st.cells (wordC x.p sp g))) (bufAt st p)), st.boxes, st.log⟩ : Ts) = _
        rw [hw, putM_of]
      have e3 : (runR x.p st p (.walk sp g)).val = wD xw := hw
      rw [e2, e3] at q
      exact ⟨_, rfl, q _ _ ((Keep.same e1).trans (Keep.put (by simp))) ((KT.of e1).trans (KT.lst (e1 _ _ hb))) (Ak.MemAt.aside hM1 (e1 _ _ hb) hW1.ob) hW2 (dp_keep (KT.lst (e1 _ _ hb)) (vok_wd xw).no (dp_mono e1 hv))⟩
    | send to l =>
      cases hd with
      | @tup _ xs _ sT aT =>
      cases aT with
      | cons d0 aT =>
      cases aT with
      | cons d1 aT =>
      cases aT with
      | @cons v _ _ _ d2 aT =>
      cases aT
      cases d0
      cases d1
      obtain ⟨yx, vs0, hy0, hyv0, hX0, hXd0, hpx⟩ := st_box hM ok.1
      obtain ⟨as, ra, hb, hbl, hbr, hpa, vs, hz, hzd, _, _⟩ := hW.rox hpx
      have lvs : vs.length ≤ 1000 := by
        rw [dpAll_len hzd, List.length_map]
        have := tk.bx _ (List.getElem_mem hpx)
        unfold boxAt
        rw [List.getElem?_eq_getElem hpx]
        exact this.1
      refine ⟨_, rfl, t, _, _, _, rfl, rfl, sT, at_of (j := 0) rfl rfl, ?_⟩
      refine ⟨_, rfl, rfl, _, rfl, ifF (by decide +kernel) ⟨_, rfl, rfl, _, rfl, ifF (by decide +kernel) ⟨_, rfl, rfl, _, rfl, ifT (by decide +kernel) ?_⟩⟩⟩
      refine ⟨_, rfl, y.w, _, rfl, g_boxes hW.dict, _, rfl, t, _, _, _, rfl, rfl, sT, at_of (j := 1) rfl rfl, y.x, _, _, _, rfl, rfl, SqL.of hb, at_nat hpa, _, rfl, t, _, _, _, rfl, rfl, sT, at_of (j := 2) rfl rfl, (by show 1 ≤ sizeLine; decide), fun l1 h1 => ⟨ra, l1, vs, [v], rfl, rfl, Same.new h1 _ _ hz, upd_same, ?_, fun l2 h2 => ?_⟩⟩
      · exact Nat.le_trans (by rw [List.length_singleton]; omega : _ ≤ 1001) (by decide)
      have e1 := (Same.new (o := .lst [v]) h1).trans (Same.new (o := .lst (vs ++ [v])) h2)
      have h2r : upd (upd H l1 (.lst [v])) l2 (.lst (vs ++ [v])) l2 = some (.lst (vs ++ [v])) := upd_same
      have nr : H l2 = none := (Same.new h1).free h2
      generalize upd (upd H l1 (.lst [v])) l2 (.lst (vs ++ [v])) = H1 at e1 h2r ⊢
      have hM1 := hM.same e1
      have f1 := Fr.same hM e1
      have hW1 := hW.fr f1 nc
      refine ⟨_, rfl, y.w, _, rfl, g_boxes hW1.dict, _, rfl, t, _, _, _, rfl, rfl, Same.tupS e1 sT, at_of (j := 1) rfl rfl, y.x, _, _, to, rfl, rfl, e1 _ _ hb, ixN_nat (by rw [List.length_map]; omega), ?_⟩
      have row : Rox K H1 x y l2 (boxAt st to ++ [l]) := ⟨vs ++ [v], h2r, by rw [List.map_append]; exact dpAll_app (dpAll_mono e1 hzd) (.cons (dp_mono e1 d2) .nil), (Off.fresh hM nr).same hM e1, fresh_apt hW nr⟩
      have hW2 := hW1.setX hM1 (e1 _ _ hb) hbl (fun i b es h1 h2 => (hbr i b es h1 h2).mv (fun q vs hq o _ => f1.lst hq o) f1.kt) row to
      exact q _ _ ((Keep.same e1).trans (Keep.put (by simp))) ((KT.of e1).trans (KT.lst (e1 _ _ hb))) (Ak.MemAt.aside hM1 (e1 _ _ hb) hW1.ox) hW2 .non
    | take =>
      cases hd with
      | @tup _ xs _ sT aT =>
      cases aT with
      | cons d0 aT =>
      cases aT
      cases d0
      obtain ⟨yx, vs0, hy0, hyv0, hX0, hXd0, hpx⟩ := st_box hM hp
      obtain ⟨as, ra, hb, hbl, hbr, hpa, vs, hz, hzd, _, _⟩ := hW.rox hpx
      refine ⟨_, rfl, t, _, _, _, rfl, rfl, sT, at_of (j := 0) rfl rfl, ?_⟩
      refine ⟨_, rfl, rfl, _, rfl, ifF (by decide +kernel) ⟨_, rfl, rfl, _, rfl, ifF (by decide +kernel) ⟨_, rfl, rfl, _, rfl, ifF (by decide +kernel) ⟨_, rfl, rfl, _, rfl, ifT (by decide +kernel) ?_⟩⟩⟩⟩
      refine ⟨_, rfl, y.w, _, rfl, g_boxes hW.dict, _, rfl, y.x, _, _, _, rfl, rfl, SqL.of hb, at_nat hpa, (by show 0 ≤ sizeLine; decide), fun l1 h1 => ?_⟩
      have shL : Sh 4 (.list ((boxAt st p).map ltD)) := sh_lst fun d hd => by
        obtain ⟨l, _, rfl⟩ := List.mem_map.mp hd
        exact sh_lt l
      have e1 := Same.new (o := .lst []) h1
      refine ⟨_, .list [], .lst (SqL.of (e1 _ _ hz)) (dpAll_mono e1 hzd), .lst (SqL.of upd_same) .nil, shL.ok, (sh_lst (n := 0) sh_n).ok, _, rfl, ?_⟩
      rw [eqv_nilD]
      generalize upd H l1 (.lst []) = H1 at e1 ⊢
      have hM1 := hM.same e1
      have f1 := Fr.same hM e1
      have hW1 := hW.fr f1 nc
      have hb1 := e1 _ _ hb
      have hz1 := e1 _ _ hz
      cases e : boxAt st p with
      | nil =>
        have e2 : after x.p st p .take = st ∧ (runR x.p st p .take).val = .bool false := by
          have e1 : runR x.p st p .take = ⟨st.cells, st.bufs, st.boxes, .bool false⟩ := by
            show takeO st p (boxAt st p) = _
            rw [e]
            rfl
          unfold after
          rw [e1]
          exact ⟨rfl, rfl⟩
        rw [e2.1, e2.2] at q
        exact iteT (q _ _ (Keep.same e1) (KT.of e1) hM1 hW1 (.bl false))
      | cons l lr =>
      rw [e, List.map_cons] at hzd
      cases hzd with
      | @cons z0 zr _ _ hz0 hzr =>
      have hl1 := dp_mono e1 hz0
      cases hl1 with
      | @tup t1 xs1 _ sT1 aT1 =>
      cases aT1 with
      | cons dt aT1 =>
      cases aT1 with
      | @cons vp _ _ _ dp aT1 =>
      cases aT1
      cases dt
      refine iteF ⟨_, rfl, y.w, _, rfl, g_boxes hW1.dict, _, rfl, y.x, _, _, _, rfl, rfl, SqL.of hb1, at_nat hpa, ra, _, _, _, rfl, rfl, SqL.of hz1, at_of (j := 0) rfl rfl, t1, _, rfl, sT1, rfl, _, _, rfl, _, _, rfl, rfl, ?_⟩
      refine ⟨_, rfl, y.w, _, rfl, g_boxes hW1.dict, _, rfl, y.x, _, _, _, rfl, rfl, SqL.of hb1, at_nat hpa, 1, rfl, ra, _, rfl, SqL.of hz1, fun l2 h2 => ?_⟩
      rw [cut1]
      have e2 := Same.new (o := .lst ((V.ref t1 :: zr).drop 1)) h2
      have h2r : upd H1 l2 (.lst ((V.ref t1 :: zr).drop 1)) l2 = some (.lst zr) := upd_same
      have nr : H1 l2 = none := h2
      generalize upd H1 l2 (.lst ((V.ref t1 :: zr).drop 1)) = H2 at e2 h2r ⊢
      have hM2 := hM1.same e2
      have f2 := Fr.same hM1 e2
      have hW2 := hW1.fr f2 nc
      refine ⟨_, rfl, y.w, _, rfl, g_boxes hW2.dict, _, rfl, y.x, _, _, p, rfl, rfl, e2 _ _ hb1, ixN_nat (by rw [List.length_map]; omega), ?_⟩
      have row : Rox K H2 x y l2 lr := ⟨zr, h2r, dpAll_mono (e1.trans e2) hzr, (Off.fresh hM1 nr).same hM1 e2, fresh_apt hW1 nr⟩
      have hW3 := hW2.setX hM2 (e2 _ _ hb1) hbl (fun i b es h1 h2 => ((hbr i b es h1 h2).mv (fun q vs hq o _ => f1.lst hq o) f1.kt).mv (fun q vs hq o _ => f2.lst hq o) f2.kt) row p
      have hM3 := Ak.MemAt.aside (ws := (as.map V.ref).set p (.ref l2)) hM2 (e2 _ _ hb1) hW2.ox
      have kp3 : Keep [y.h, y.b, y.x] H (upd H2 y.x (.lst ((as.map V.ref).set p (.ref l2)))) := (Keep.same (e1.trans e2)).trans (Keep.put (by simp))
      have kt3 : KT H (upd H2 y.x (.lst ((as.map V.ref).set p (.ref l2)))) := (KT.of (e1.trans e2)).trans (KT.lst (e2 _ _ hb1))
      have dp3 := dp_keep ((KT.of e2).trans (KT.lst (u := .lst ((as.map V.ref).set p (.ref l2))) (e2 _ _ hb1))) (noL_pairs l.ps) dp
      generalize upd H2 y.x (.lst ((as.map V.ref).set p (.ref l2))) = H3 at hW3 hM3 kp3 kt3 dp3 ⊢
      obtain ⟨yb, l0, zs0, hb0, hbv0, hB0, hE0, hzs0, lz0, hpb⟩ := st_buf hM hp
      obtain ⟨as2, ra2, hb2, hbl2, hbr2, hpa2, zs, hzz, hE, hzs, _, _⟩ := hW3.row (p := p) hpb
      have lzs : zs.length ≤ 2 := by
        have e9 : bufAt (⟨st.n, st.cells, st.bufs, st.boxes.set p lr, st.log⟩ : Ts) p = bufAt st p := rfl
        rw [← List.length_map (f := Prod.snd), hzs, e9, ← hzs0, List.length_map]
        exact lz0
      refine ⟨_, rfl, y.w, _, rfl, g_bufs hW3.dict, _, rfl, y.b, _, _, _, rfl, rfl, SqL.of hb2, at_nat hpa2, ra2, rfl, ⟨_, SqL.of hzz⟩, fun D hD => ?_⟩
      refine lc_list (K := K) (a := ra2) (xs := zs.map aV) (fun i H' => ∃ G, H' = upd G D (.lst (((zs.take i).filter fun z => keep l.ps z.2).map aV)) ∧ Same H3 G ∧ G D = none)
        ⟨H3, rfl, Same.refl H3, hD⟩ (fun i H' _ ⟨G, e, eS, gD⟩ => by rw [e]; exact SqL.of ((Same.new gD) _ _ (eS _ _ hzz))) ?_ ?_
      · rintro i xv H' hx ⟨G, rfl, eS, gD⟩
        obtain ⟨z, hzi, rfl⟩ := map_get hx
        have hzz2 := eS _ _ (hE z (mem_of_get hzi))
        refine ⟨rfl, _, rfl, 2, rfl, z.1, eV z.2, rfl, SqT.of ((Same.new gD) _ _ hzz2), (fun h => absurd h.2 (by show ¬ (2 : Nat) = 4; decide)), fun _ t2 ht2 => ?_⟩
        have ntD : t2 ≠ D := fun e => by rw [e, upd_same] at ht2; cases ht2
        have gt : G t2 = none := (upd_ne ntD).symm.trans ht2
        have eC : upd (upd G D (.lst (((zs.take i).filter fun z => keep l.ps z.2).map aV))) t2 (.tup [.int z.2.s, .int z.2.p]) = upd (upd G t2 (.tup [.int z.2.s, .int z.2.p])) D (.lst (((zs.take i).filter fun z => keep l.ps z.2).map aV)) := upd_comm (Ne.symm ntD)
        have eG : Same H3 (upd G t2 (.tup [.int z.2.s, .int z.2.p])) := eS.trans (Same.new gt)
        have gD2 : upd G t2 (.tup [.int z.2.s, .int z.2.p]) D = none := (upd_ne (Ne.symm ntD)).trans gD
        have eA : Same H3 (upd (upd G t2 (.tup [.int z.2.s, .int z.2.p])) D (.lst (((zs.take i).filter fun z => keep l.ps z.2).map aV))) := eG.trans (Same.new gD2)
        refine ⟨_, rfl, pD (z.2.s, z.2.p), l.ps.map pD, ?_, ?_, (shP _).ok, (shPs l.ps).ok, _, rfl, ?_⟩
        · exact .tup (SqT.of upd_same) (.cons (.int _) (.cons (.int _) .nil))
        · show Dp K (upd (upd G D _) t2 (.tup [.int z.2.s, .int z.2.p])) vp _ ∨ Dp K (upd (upd G D _) t2 (.tup [.int z.2.s, .int z.2.p])) vp _
          rw [eC]
          exact .inr (dp_mono eA dp3)
        · have ek : (!(l.ps.map pD).any fun d => PyData.eqv d (pD (z.2.s, z.2.p))) = keep l.ps z.2 := any_pD l.ps z.2
          refine ite2 (fun c => ?_) (fun c => ?_)
          · refine ⟨_, rfl, _, (upd_ne (Ne.symm ntD)).trans upd_same, ?_, upd G t2 (.tup [.int z.2.s, .int z.2.p]), ?_, eG, gD2⟩
            · rw [List.length_map]
              refine Nat.lt_of_le_of_lt (Nat.le_trans (List.length_filter_le _ _) (by rw [List.length_take]; exact Nat.le_trans (Nat.min_le_right _ _) lzs)) (by decide : 2 < sizeLine)
            · rw [ek] at c
              show upd (upd (upd G D _) t2 (.tup [.int z.2.s, .int z.2.p])) D _ = _
              rw [eC, upd_upd, take_snoc hzi, List.filter_append, List.map_append, List.filter_cons, if_pos c]
              rfl
          · refine ⟨upd G t2 (.tup [.int z.2.s, .int z.2.p]), ?_, eG, gD2⟩
            rw [ek] at c
            show upd (upd G D _) t2 (.tup [.int z.2.s, .int z.2.p]) = _
            rw [eC, take_snoc hzi, List.filter_append, List.filter_cons, if_neg c, List.filter_nil, List.append_nil]
      · rintro H' ⟨G, rfl, eS, gD⟩
        rw [List.length_map, List.take_length]
        have e4 : Same H3 (upd G D (.lst ((zs.filter fun z => keep l.ps z.2).map aV))) := eS.trans (Same.new gD)
        have hDr : upd G D (.lst ((zs.filter fun z => keep l.ps z.2).map aV)) D = some (.lst ((zs.filter fun z => keep l.ps z.2).map aV)) := upd_same
        have nD : H3 D = none := hD
        generalize upd G D (.lst ((zs.filter fun z => keep l.ps z.2).map aV)) = H4 at e4 hDr ⊢
        have hM3' : MemAt K ⟨a.C_Memory, a.C_Sizes, a.C_Buffer, a.C_Box⟩ H3 x st.ms := hM3
        have hM4 := hM3'.same e4
        have f4 := Fr.same hM3' e4
        have hW4 := hW3.fr f4 nc
        refine ⟨_, rfl, y.w, _, rfl, g_bufs hW4.dict, _, rfl, y.b, _, _, p, rfl, rfl, e4 _ _ hb2, ixN_nat (by rw [List.length_map]; have h9 : as2.length = st.bufs.length := hbl2; omega), ?_⟩
        have row5 : Row H4 x y D ((bufAt st p).filter (keep l.ps)) := ⟨zs.filter fun z => keep l.ps z.2, hDr, (hE.kt (KT.of e4)).filter _, by rw [filter_snd, hzs]; rfl, (Off.fresh hM3' nD).same hM3' e4, fresh_apt hW3 nD⟩
        obtain ⟨as4, b41, b42, b43⟩ := hW4.bufs
        have eas : as4 = as2 := by
          have := (e4 _ _ hb2).symm.trans b41
          injection this with this
          injection this with this
          have inj : Function.Injective V.ref := fun p q e => by injection e
          exact (List.map_inj_right (fun p q e => inj e)).mp this.symm
        subst eas
        have hW4' : WAt K H4 x y ⟨st.n, st.cells, st.bufs, st.boxes.set p lr, st.log⟩ := hW4
        have hMx : ∀ {H' : Hp}, MemAt K ⟨a.C_Memory, a.C_Sizes, a.C_Buffer, a.C_Box⟩ H' x st.ms → True := fun _ => True.intro
        have hW5 := WAt.setB hW4' hM4 b41 b42 b43 row5 p
        have hM5 := Ak.MemAt.aside (ws := (as4.map V.ref).set p (.ref D)) hM4 b41 hW4.ob
        have kp5 := kp3.trans ((Keep.same e4).trans (Keep.put (F := [y.h, y.b, y.x]) (a := y.b) (o := .lst ((as4.map V.ref).set p (.ref D))) (H := H4) (by simp)))
        have kt5 := kt3.trans ((KT.of e4).trans (KT.lst (u := .lst ((as4.map V.ref).set p (.ref D))) b41))
        generalize upd H4 y.b (.lst ((as4.map V.ref).set p (.ref D))) = H5 at hW5 hM5 kp5 kt5 ⊢
        obtain ⟨vs6, h61, h62⟩ := hW5.held
        have lc := hM.lenC
        have e0 : st.ms.cells = st.cells := rfl
        rw [e0] at lc
        have l6 := dpAll_len h62
        have hj6 : 1 + p < vs6.length := by
          have : (⟨st.n, st.cells, st.bufs.set p ((bufAt st p).filter (keep l.ps)), st.boxes.set p lr, st.log⟩ : Ts).cells = st.cells := rfl
          rw [this] at l6
          unfold cellsN at lc
          omega
        have ec : (1 : Int) + (p : Int) = ((1 + p : Nat) : Int) := by omega
        refine ⟨_, rfl, _, rfl, y.w, _, rfl, g_held hW5.dict, _, rfl, _, _, rfl, rfl, y.h, vs6, _, 1 + p, rfl, rfl, h61, ?_, ?_⟩
        · rw [ec]
          exact ixN_nat hj6
        have hW6 := WAt.setH hW5 hM5 h61 h62 (.int l.t) (by simp only [noL]) (1 + p)
        have hM6 := Ak.MemAt.aside (ws := vs6.set (1 + p) (.int l.t)) hM5 h61 hW5.oh
        have e2' : after x.p st p .take = ⟨st.n, st.cells.set (1 + p) (.int l.t), st.bufs.set p ((bufAt st p).filter (keep l.ps)), st.boxes.set p lr, st.log⟩ ∧ (runR x.p st p .take).val = .bool true := by
          have e1 : runR x.p st p .take = ⟨st.cells.set (1 + p) (.int l.t), st.bufs.set p ((bufAt st p).filter (keep l.ps)), st.boxes.set p lr, .bool true⟩ := by
            show takeO st p (boxAt st p) = _
            rw [e]
            rfl
          unfold after
          rw [e1]
          exact ⟨rfl, rfl⟩
        rw [e2'.1, e2'.2] at q
        exact q _ _ (kp5.trans (Keep.put (by simp))) (kt5.trans (KT.lst h61)) hM6 hW6 (.bl true)

theorem ok__law_request (T : Txt w K mg a) : FnOk P w K mg base CX0 1 a.f__law_request a.d__law_request ["w", "number", "pick", "other"] (spLReq K) := by
  refine T.F__law_request.ok sc__law_request (fun vs H Q E h => ?_) (fun cdv A outer s H vs Q E hr h => ?_)
  · obtain ⟨x, y, n, pk, o, rfl, _⟩ := h
    rfl
  · obtain ⟨x, y, n, pk, o, rfl, hw, ⟨p1, p3⟩, ⟨xf, xb⟩, n0, k0, o0, q⟩ := h
    refine ⟨_, (pss_cons (ps_set (i := 4) sc__law_request.nd rfl (Or.inl rfl) (pe_op op_mod (pv 2) pe_int))
    (pss_cons (ps_set (i := 5) sc__law_request.nd rfl (Or.inl rfl) (pe_ix ix_list (pe_lst (pa_cons pe_int (pa_cons pe_int (pa_cons pe_int (pa_cons pe_int pa_nil))))) (pe_op op_mod (pe_op op_fdiv (pv 2) pe_int) pe_int) (fun _ _ => rfl)))
    (pss_cons (ps_set (i := 6) sc__law_request.nd rfl (Or.inl rfl) (pe_op op_mod (pv 1) pe_int))
    (pss_cons (ps_if (pt_cmpR (op_lt) (pv 6) pe_int (nomark _)) (pss_cons (ps_set (i := 7) sc__law_request.nd rfl (Or.inl rfl) (pe_ix ix_list (pe_lst (pa_cons (pe_tup (pa_cons pe_str (pa_cons (pe_op op_mod (pv 3) pe_int) (pa_cons (pe_cmpR (op_eq) (pe_op op_mod (pe_op op_fdiv (pv 3) pe_int) pe_int) pe_int (nomark _)) pa_nil)))) (pa_cons (pe_tup (pa_cons pe_str (pa_cons pe_int (pa_cons pe_bl pa_nil)))) (pa_cons pe_non (pa_cons (pe_tup (pa_cons pe_str (pa_cons pe_int pa_nil))) pa_nil))))) (pe_op op_mod (pe_op op_fdiv (pv 3) pe_int) pe_int) (fun _ _ => rfl)))
    (pss_one (ps_ret (pe_tup (pa_cons pe_str (pa_cons (pe_op op_add (pe_op op_add (pe_op op_add pe_int (pe_dget (hu_of hr) (pv 0) pe_str (fun _ _ => rfl))) (pe_op op_mul pe_int (pv 4))) (pv 5)) (pa_cons (pv 7) pa_nil))))))) pss_nil)
    (pss_cons (ps_if (pt_cmpR (op_eq) (pv 6) pe_int (nomark _)) (pss_one (ps_ret (pe_tup (pa_cons pe_str (pa_cons (pe_op op_add (pe_op op_add pe_int (pe_dget (hu_of hr) (pv 0) pe_str (fun _ _ => rfl))) (pe_op op_mod (pv 3) pe_int)) (pa_cons (pv 3) pa_nil)))))) pss_nil)
    (pss_cons (ps_if (pt_cmpR (op_lt) (pv 6) pe_int (nomark _)) (pss_one (ps_ret (pe_tup (pa_cons pe_str (pa_cons (pv 4) (pa_cons (pv 5) pa_nil)))))) pss_nil)
    (pss_cons (ps_if (pt_cmpR (op_eq) (pv 6) pe_int (nomark _)) (pss_one (ps_ret (pe_tup (pa_cons pe_str (pa_cons (pv 4) (pa_cons (pv 5) (pa_cons (pe_op op_mod (pv 3) pe_int) pa_nil))))))) pss_nil)
    (pss_cons (ps_if (pt_cmpR (op_eq) (pv 6) pe_int (nomark _)) (pss_one (ps_ret (pe_tup (pa_cons pe_str (pa_cons (pv 4) (pa_cons (pv 5) (pa_cons (pe_op op_mod (pv 3) pe_int) (pa_cons (pv 3) pa_nil)))))))) pss_nil)
    (pss_cons (ps_if (pt_cmpR (op_eq) (pv 6) pe_int (nomark _)) (pss_one (ps_ret (pe_tup (pa_cons pe_str (pa_cons (pv 4) (pa_cons (pv 5) (pa_cons (pe_op op_mod (pv 3) pe_int) (pa_cons (pe_ix ix_list (pe_lst (pa_cons (pe_op op_fdiv (pv 3) pe_int) (pa_cons pe_int pa_nil))) (pe_op op_mod (pe_op op_fdiv (pv 3) pe_int) pe_int) (fun _ _ => rfl)) (pa_cons (pe_op op_fdiv (pv 3) pe_int) pa_nil))))))))) pss_nil)
    (pss_cons (ps_if (pt_cmpR (op_eq) (pv 6) pe_int (nomark _)) (pss_cons (ps_set (i := 8) sc__law_request.nd rfl (Or.inl rfl) (pe_callTy call_tuple_of (by rfl) T.b_tuple (by decide +kernel) (pa_cons (pe_slice sl_list (pe_lst (pa_cons (pe_tup (pa_cons (pv 4) (pa_cons (pv 5) pa_nil))) (pa_cons (pe_tup (pa_cons (pe_op op_mod (pv 3) pe_int) (pa_cons (pe_op op_mod (pe_op op_fdiv (pv 3) pe_int) pe_int) pa_nil))) pa_nil))) po_none (po_some (pe_op op_add pe_int (pe_op op_mod (pe_op op_fdiv (pv 3) pe_int) pe_int)))) pa_nil)))
    (pss_one (ps_ret (pe_tup (pa_cons pe_str (pa_cons (pe_op op_mod (pv 3) (pe_dget (hu_of hr) (pv 0) pe_str (fun _ _ => rfl))) (pa_cons (pe_tup (pa_cons (pe_op op_add pe_int (pv 3)) (pa_cons (pv 8) pa_nil))) pa_nil))))))) pss_nil)
    (pss_one (ps_ret (pe_tup (pa_cons pe_str pa_nil)))))))))))))), ?_⟩
    have two : (2 : Nat) ≤ sizeLine := by decide
    have sp0 := Int.emod_nonneg pk (by decide : (2 : Int) ≠ 0)
    have sp1 := Int.emod_lt_of_pos pk (by decide : (0 : Int) < 2)
    refine ⟨_, rfl, _, _, rfl, rfl, (by show (0 : Int) < 2; decide), ?_⟩
    refine ⟨(by show 4 ≤ sizeLine; decide), fun l hl => ⟨_, rfl, _, _, rfl, rfl, ⟨by decide, by decide⟩, _, _, rfl, rfl, (by show (0 : Int) < 4; decide), ?_⟩⟩
    have e1 := Same.new (o := .lst [.int 0, .int 1, .int 2, .int 7]) hl
    have j0 := Int.emod_nonneg (pk / 2) (by decide : (4 : Int) ≠ 0)
    have j1 := Int.emod_lt_of_pos (pk / 2) (by decide : (0 : Int) < 4)
    obtain ⟨g, hg, g0, g1⟩ : ∃ g : Int, atI [V.int 0, .int 1, .int 2, .int 7] (pk / 2 % 4) = some (.int g) ∧ 0 ≤ g ∧ g < 8 := by
      have : pk / 2 % 4 = 0 ∨ pk / 2 % 4 = 1 ∨ pk / 2 % 4 = 2 ∨ pk / 2 % 4 = 3 := by omega
      rcases this with h | h | h | h <;> rw [h]
      · exact ⟨0, at_of (j := 0) rfl rfl, by decide, by decide⟩
      · exact ⟨1, at_of (j := 1) rfl rfl, by decide, by decide⟩
      · exact ⟨2, at_of (j := 2) rfl rfl, by decide, by decide⟩
      · exact ⟨7, at_of (j := 3) rfl rfl, by decide, by decide⟩
    refine ⟨l, _, _, _, rfl, rfl, SqL.of upd_same, hg, ?_⟩
    have hw1 := e1 _ _ hw
    generalize upd H l (.lst [.int 0, .int 1, .int 2, .int 7]) = H1 at e1 hw1 ⊢
    dsimp only
    generalize pk % 2 = sp at sp0 sp1 ⊢
    have hin : inS sp g := ⟨⟨sp0, by omega⟩, ⟨g0, g1⟩⟩
    have nw : ∀ {r : Rq}, (∀ c d, r ≠ .write c d) → ∀ c d, r = .write c d → (∃ sp g, inS sp g ∧ c = wordC x.p sp g ∧ ∃ w, d = wD w ∧ ∀ f wr, w = .frame f wr → 0 ≤ f ∧ f < 4) ∨ (33 + x.p ≤ c) := fun h c d e => absurd e (h c d)
    refine ⟨_, rfl, _, _, rfl, rfl, (by show (0 : Int) < 10; decide), ?_⟩
    -- words
    refine ⟨_, rfl, _, _, rfl, rfl, _, rfl, ite2 (fun _ => ?_) (fun _ => ?_)⟩
    · refine ⟨_, rfl, _, _, rfl, rfl, (by show (0 : Int) < 4; decide), _, rfl, _, _, rfl, rfl, ⟨by decide, by decide⟩, _, _, rfl, rfl, (by show (0 : Int) < 2; decide), rfl, (by show 3 ≤ sizeLine; decide), fun t1 h1 => ⟨(by show 3 ≤ sizeLine; decide), fun t2 h2 => ⟨two, fun t3 h3 => ⟨(by show 4 ≤ sizeLine; decide), fun l2 hl2 => ?_⟩⟩⟩⟩
      refine ⟨_, rfl, _, _, rfl, rfl, ⟨by decide, by decide⟩, _, _, rfl, rfl, (by show (0 : Int) < 4; decide), ?_⟩
      have a3 := Same.new (o := .lst [.ref t1, .ref t2, .non, .ref t3]) hl2
      have a2 := (Same.new (o := .tup [.str "swap", .int 1]) h3).trans a3
      have a1 := (Same.new (o := .tup [.str "frame", .int 0, .bl true]) h2).trans a2
      have a0 := (Same.new (o := .tup [.str "frame", .int (o % 4), .bl (decide (V.int (o / 4 % 2) = V.int 0))]) h1).trans a1
      have f0 := Int.emod_nonneg o (by decide : (4 : Int) ≠ 0)
      have f1 := Int.emod_lt_of_pos o (by decide : (0 : Int) < 4)
      obtain ⟨v, xw, hv, hd, hf⟩ : ∃ (v : V) (xw : Wd), atI [V.ref t1, .ref t2, .non, .ref t3] (o / 8 % 4) = some v ∧ Dp K (upd (upd (upd (upd H1 t1 (.tup [.str "frame", .int (o % 4), .bl (decide (V.int (o / 4 % 2) = V.int 0))])) t2 (.tup [.str "frame", .int 0, .bl true])) t3 (.tup [.str "swap", .int 1])) l2 (.lst [.ref t1, .ref t2, .non, .ref t3])) v (wD xw) ∧ ∀ f wr, xw = .frame f wr → 0 ≤ f ∧ f < 4 := by
        have b0 := Int.emod_nonneg (o / 8) (by decide : (4 : Int) ≠ 0)
        have b1 := Int.emod_lt_of_pos (o / 8) (by decide : (0 : Int) < 4)
        have : o / 8 % 4 = 0 ∨ o / 8 % 4 = 1 ∨ o / 8 % 4 = 2 ∨ o / 8 % 4 = 3 := by omega
        rcases this with h | h | h | h <;> rw [h]
        · exact ⟨_, .frame (o % 4) (decide (V.int (o / 4 % 2) = V.int 0)), at_of (j := 0) rfl rfl, .tup (SqT.of (a1 _ _ upd_same)) (.cons (.str _) (.cons (.int _) (.cons (.bl _) .nil))), fun f wr e => by cases e; exact ⟨f0, f1⟩⟩
        · exact ⟨_, .frame 0 true, at_of (j := 1) rfl rfl, .tup (SqT.of (a2 _ _ upd_same)) (.cons (.str _) (.cons (.int _) (.cons (.bl _) .nil))), fun f wr e => by cases e; decide⟩
        · exact ⟨_, .non, at_of (j := 2) rfl rfl, .non, fun f wr e => by cases e⟩
        · exact ⟨_, .swap 1, at_of (j := 3) rfl rfl, .tup (SqT.of (a3 _ _ upd_same)) (.cons (.str _) (.cons (.int _) .nil)), fun f wr e => by cases e⟩
      refine ⟨l2, _, _, _, rfl, rfl, SqL.of upd_same, hv, ?_⟩
      have hw2 := a0 _ _ hw1
      have e2 := e1.trans a0
      generalize upd (upd (upd (upd H1 t1 (.tup [.str "frame", .int (o % 4), .bl (decide (V.int (o / 4 % 2) = V.int 0))])) t2 (.tup [.str "frame", .int 0, .bl true])) t3 (.tup [.str "swap", .int 1])) l2 (.lst [.ref t1, .ref t2, .non, .ref t3]) = H2 at hd hw2 e2 ⊢
      refine ⟨_, rfl, y.w, _, rfl, g_many hw2, _, _, rfl, rfl, _, rfl, _, _, rfl, rfl, .inl ⟨by decide, by decide⟩, _, _, rfl, rfl, _, rfl, _, _, rfl, rfl, _, rfl, (by show 3 ≤ sizeLine; decide), fun t ht => ?_⟩
      refine q _ t (.write (wordC x.p sp g) (wD xw)) (e2.trans (Same.new ht)) (.tup (SqT.of upd_same) (.cons (.str _) (.cons (.int _) (.cons (dp_mono (Same.new ht) hd) .nil)))) (fun s _ => ⟨?_, vok_wd xw⟩) fun c d e => ?_
      · unfold wordC cellsN
        omega
      · cases e
        exact .inl ⟨sp, g, hin, rfl, xw, rfl, hf⟩
    -- cells of frames
    refine ⟨_, rfl, rfl, _, rfl, ite2 (fun _ => ?_) (fun _ => ?_)⟩
    · refine ⟨_, rfl, y.w, _, rfl, g_many hw1, _, _, rfl, rfl, _, rfl, _, _, rfl, rfl, (by show (0 : Int) < 8; decide), _, _, rfl, rfl, _, rfl, (by show 3 ≤ sizeLine; decide), fun t ht => ?_⟩
      have b0 := Int.emod_nonneg o (by decide : (8 : Int) ≠ 0)
      have b1 := Int.emod_lt_of_pos o (by decide : (0 : Int) < 8)
      refine q _ t (.write (33 + x.p + o % 8) (.int o)) (e1.trans (Same.new ht)) (.tup (SqT.of upd_same) (.cons (.str _) (.cons (.int _) (.cons (.int _) .nil)))) (fun s _ => ⟨?_, vok_int o⟩) fun c d e => ?_
      · unfold cellsN
        omega
      · cases e
        exact .inr (by omega)
    -- walk
    refine ⟨_, rfl, _, _, rfl, rfl, _, rfl, ite2 (fun _ => ?_) (fun _ => ?_)⟩
    · refine ⟨_, rfl, _, rfl, (by show 3 ≤ sizeLine; decide), fun t ht => ?_⟩
      exact q _ t (.walk sp g) (e1.trans (Same.new ht)) (.tup (SqT.of upd_same) (.cons (.str _) (.cons (.int _) (.cons (.int _) .nil)))) (fun s hs => ⟨hin, hs sp g hin⟩) (nw fun c d e => by cases e)
    have i0 := Int.emod_nonneg o (by decide : (2 : Int) ≠ 0)
    have i1 := Int.emod_lt_of_pos o (by decide : (0 : Int) < 2)
    -- load
    refine ⟨_, rfl, rfl, _, rfl, ite2 (fun _ => ?_) (fun _ => ?_)⟩
    · refine ⟨_, rfl, _, rfl, _, rfl, _, _, rfl, rfl, (by show (0 : Int) < 2; decide), (by show 4 ≤ sizeLine; decide), fun t ht => ?_⟩
      exact q _ t (.load sp g (o % 2)) (e1.trans (Same.new ht)) (.tup (SqT.of upd_same) (.cons (.str _) (.cons (.int _) (.cons (.int _) (.cons (.int _) .nil))))) (fun s hs => ⟨hin, i0, i1⟩) (nw fun c d e => by cases e)
    -- store
    refine ⟨_, rfl, rfl, _, rfl, ite2 (fun _ => ?_) (fun _ => ?_)⟩
    · refine ⟨_, rfl, _, rfl, _, rfl, _, _, rfl, rfl, (by show (0 : Int) < 2; decide), _, rfl, (by show 5 ≤ sizeLine; decide), fun t ht => ?_⟩
      exact q _ t (.store sp g (o % 2) (.int o)) (e1.trans (Same.new ht)) (.tup (SqT.of upd_same) (.cons (.str _) (.cons (.int _) (.cons (.int _) (.cons (.int _) (.cons (.int _) .nil)))))) (fun s hs => ⟨hin, ⟨i0, i1⟩, vok_int o⟩) (nw fun c d e => by cases e)
    -- change
    refine ⟨_, rfl, rfl, _, rfl, ite2 (fun _ => ?_) (fun _ => ?_)⟩
    · refine ⟨_, rfl, _, rfl, _, rfl, _, _, rfl, rfl, (by show (0 : Int) < 2; decide), _, rfl, _, _, rfl, rfl, ⟨by decide, by decide⟩, two, fun l2 hl2 => ⟨_, rfl, _, _, rfl, rfl, ⟨by decide, by decide⟩, _, _, rfl, rfl, (by show (0 : Int) < 2; decide), ?_⟩⟩
      obtain ⟨old, ho⟩ : ∃ old : Int, atI [V.int (o / 2), .int 0] (o / 3 % 2) = some (.int old) := by
        have b0 := Int.emod_nonneg (o / 3) (by decide : (2 : Int) ≠ 0)
        have b1 := Int.emod_lt_of_pos (o / 3) (by decide : (0 : Int) < 2)
        have : o / 3 % 2 = 0 ∨ o / 3 % 2 = 1 := by omega
        rcases this with h | h <;> rw [h]
        · exact ⟨_, at_of (j := 0) rfl rfl⟩
        · exact ⟨_, at_of (j := 1) rfl rfl⟩
      refine ⟨l2, _, _, _, rfl, rfl, SqL.of upd_same, ho, _, rfl, _, _, rfl, rfl, ⟨by decide, by decide⟩, (by show 6 ≤ sizeLine; decide), fun t ht => ?_⟩
      exact q _ t (.change sp g (o % 2) (.int old) (.int (o / 5))) ((e1.trans (Same.new hl2)).trans (Same.new ht)) (.tup (SqT.of upd_same) (.cons (.str _) (.cons (.int _) (.cons (.int _) (.cons (.int _) (.cons (.int _) (.cons (.int _) .nil))))))) (fun s hs => ⟨hin, ⟨i0, i1⟩, vok_int _, vok_int _⟩) (nw fun c d e => by cases e)
    -- send
    refine ⟨_, rfl, rfl, _, rfl, ite2 (fun _ => ?_) (fun _ => ?_)⟩
    · have g20 := Int.emod_nonneg (o / 2) (by decide : (8 : Int) ≠ 0)
      have g21 := Int.emod_lt_of_pos (o / 2) (by decide : (0 : Int) < 8)
      refine ⟨_, rfl, _, rfl, two, fun t1 h1 => ⟨_, rfl, _, _, rfl, rfl, (by show (0 : Int) < 2; decide), _, rfl, _, _, rfl, rfl, ⟨by decide, by decide⟩, _, _, rfl, rfl, (by show (0 : Int) < 8; decide), two, fun t2 h2 => ⟨two, fun l2 hl2 => ?_⟩⟩⟩
      refine ⟨_, rfl, _, _, rfl, rfl, ⟨by decide, by decide⟩, _, _, rfl, rfl, (by show (0 : Int) < 2; decide), _, _, rfl, rfl, _, rfl, l2, _, rfl, SqL.of upd_same, fun l3 hl3 => ?_⟩
      have b3 := Same.new (o := .lst (cutV [V.ref t1, .ref t2] none (some (1 + o / 16 % 2)))) hl3
      have b2 := (Same.new (o := .lst [.ref t1, .ref t2]) hl2).trans b3
      have b1 := (Same.new (o := .tup [.int (o % 2), .int (o / 2 % 8)]) h2).trans b2
      have b0 := (Same.new (o := .tup [.int sp, .int g]) h1).trans b1
      have T1 := b1 _ _ (upd_same (H := H1) (a := t1) (o := .tup [.int sp, .int g]))
      have T2 := b2 _ _ (upd_same (H := upd H1 t1 (.tup [.int sp, .int g])) (a := t2) (o := .tup [.int (o % 2), .int (o / 2 % 8)]))
      obtain ⟨ps, pv, ec, hps, hpn, hpl, hpo⟩ : ∃ (ps : List (Int × Int)) (pv : List V), cutV [V.ref t1, .ref t2] none (some (1 + o / 16 % 2)) = pv ∧ (∀ H', SqT K H' t1 [.int sp, .int g] → SqT K H' t2 [.int (o % 2), .int (o / 2 % 8)] → DpAll K H' pv (ps.map pD)) ∧ ps ≠ [] ∧ ps.length ≤ 10 ∧ ∀ q ∈ ps, (0 ≤ q.1 ∧ q.1 < 4) ∧ (0 ≤ q.2 ∧ q.2 < 8) := by
        have c0 := Int.emod_nonneg (o / 16) (by decide : (2 : Int) ≠ 0)
        have c1 := Int.emod_lt_of_pos (o / 16) (by decide : (0 : Int) < 2)
        have ok1 : (0 ≤ sp ∧ sp < 4) ∧ (0 ≤ g ∧ g < 8) := hin
        have ok2 : (0 ≤ o % 2 ∧ o % 2 < 4) ∧ (0 ≤ o / 2 % 8 ∧ o / 2 % 8 < 8) := ⟨⟨i0, by omega⟩, ⟨g20, g21⟩⟩
        have : o / 16 % 2 = 0 ∨ o / 16 % 2 = 1 := by omega
        rcases this with h | h <;> rw [h]
        · refine ⟨[(sp, g)], [.ref t1], rfl, fun H' s1 _ => .cons (.tup s1 (.cons (.int _) (.cons (.int _) .nil))) .nil, by simp, by simp, fun q hq => ?_⟩
          rw [List.mem_singleton.mp hq]
          exact ok1
        · refine ⟨[(sp, g), (o % 2, o / 2 % 8)], [.ref t1, .ref t2], rfl, fun H' s1 s2 => .cons (.tup s1 (.cons (.int _) (.cons (.int _) .nil))) (.cons (.tup s2 (.cons (.int _) (.cons (.int _) .nil))) .nil), by simp, by simp, fun q hq => ?_⟩
          simp only [List.mem_cons, List.not_mem_nil, or_false] at hq
          rcases hq with rfl | rfl
          · exact ok1
          · exact ok2
      rw [ec] at b0 T1 T2 ⊢
      have hl3r : upd (upd (upd (upd H1 t1 (.tup [.int sp, .int g])) t2 (.tup [.int (o % 2), .int (o / 2 % 8)])) l2 (.lst [.ref t1, .ref t2])) l3 (.lst pv) l3 = some (.lst pv) := upd_same
      have hw2 := b0 _ _ hw1
      have e2 := e1.trans b0
      generalize upd (upd (upd (upd H1 t1 (.tup [.int sp, .int g])) t2 (.tup [.int (o % 2), .int (o / 2 % 8)])) l2 (.lst [.ref t1, .ref t2])) l3 (.lst pv) = H2 at hl3r hw2 e2 T1 T2 ⊢
      refine ⟨l3, _, rfl, .inl ⟨SqL.of hl3r, fun t4 h4 => ?_⟩⟩
      have d4 := Same.new (o := .tup pv) h4
      have hw4 := d4 _ _ hw2
      have m0 := Int.emod_nonneg o (by omega : x.p ≠ 0)
      have m1 := Int.emod_lt_of_pos o (by omega : 0 < x.p)
      refine ⟨_, rfl, _, rfl, y.w, _, rfl, g_many hw4, _, _, rfl, rfl, (by show 0 < x.p; omega), _, rfl, _, _, rfl, rfl, _, rfl, two, fun t5 h5 => ⟨(by show 3 ≤ sizeLine; decide), fun t6 h6 => ?_⟩⟩
      have d6 := Same.new (o := .tup [.str "send", .int (o % x.p), .ref t5]) h6
      have d5 := (Same.new (o := .tup [.int (1 + o), .ref t4]) h5).trans d6
      obtain ⟨to, eto⟩ : ∃ to : Nat, o % x.p = (to : Int) := ⟨(o % x.p).toNat, by omega⟩
      refine q _ t6 (.send to ⟨1 + o, ps⟩) ((e2.trans d4).trans d5) ?_ (fun s hs => ⟨by omega, ⟨by show 1 ≤ 1 + o; omega, hpn, hpl, hpo⟩⟩) (nw fun c d e => by cases e)
      show Dp K _ _ (.tuple [.str "send", .int (to : Int), .tuple [.int (1 + o), .tuple (ps.map pD)]])
      rw [← eto]
      refine .tup (SqT.of upd_same) (.cons (.str _) (.cons (.int _) (.cons (.tup (SqT.of (d6 _ _ upd_same)) (.cons (.int _) (.cons (.tup (SqT.of (d5 _ _ upd_same)) ?_) .nil))) .nil)))
      exact hps _ (SqT.of (d5 _ _ (d4 _ _ T1))) (SqT.of (d5 _ _ (d4 _ _ T2)))
    -- take
    refine ⟨(by show 1 ≤ sizeLine; decide), fun t ht => ?_⟩
    exact q _ t .take (e1.trans (Same.new ht)) (.tup (SqT.of upd_same) (.cons (.str _) .nil)) (fun s hs => True.intro) (nw fun c d e => by cases e)
theorem ens_dp {K : PySem.W.Frag} {H : Hp} : ∀ {zs : List (Addr × En)}, EnAll H zs → DpAll K H (zs.map aV) ((zs.map Prod.snd).map eD)
  | [], _ => .nil
  | z :: zs, h => .cons (.tup (SqT.of (h z (List.mem_cons_self ..))) (.cons (.int _) (.cons (.int _) (.cons (.int _) (.cons (.bl _) .nil))))) (ens_dp fun y hy => h y (List.mem_cons_of_mem _ hy))
theorem shEns (es : List En) : Sh 2 (.list (es.map eD)) := sh_lst fun d hd => by
  obtain ⟨e, _, rfl⟩ := List.mem_map.mp hd
  exact sh_tup (sh_c (sh_int _) (sh_c (sh_int _) (sh_c (sh_int _) (sh_c (sh_bool _) sh_n))))
theorem ok__law_looks (T : Txt w K mg a) : FnOk P w K mg base CX0 2 a.f__law_looks a.d__law_looks ["memory", "w"] (spLooks K ⟨a.C_Memory, a.C_Sizes, a.C_Buffer, a.C_Box⟩) := by
  refine T.F__law_looks.ok sc__law_looks (fun vs H Q E h => ?_) (fun cdv A outer s H vs Q E hr h => ?_)
  · obtain ⟨x, y, st, rfl, _⟩ := h
    rfl
  · obtain ⟨x, y, st, rfl, hM, hW, q⟩ := h
    refine ⟨_, (pss_cons (ps_for PassesOwn.never rfl (pi_range1 rfl T.b_range (pa_cons (pe_dget (hu_of hr) (pv 1) pe_str (fun _ _ => rfl)) pa_nil)) (pg_name (i := 2) sc__law_looks.nd rfl (Or.inl rfl))
    (pss_one (ps_if (PW.pt (pw_or (pt_cmpR (op_neD hr.units) (pe_meth0 (pe_ix ix_list (pe_fld (pv 0) rfl) (pv 2) (fun _ _ => rfl)) T.c_Buffer T.M_Buffer_entries (ok_Buffer_entries T) (hr.mono (by decide)) T.B_Buffer_entries .nil pass0) (pe_ix ix_list (pe_dget (hu_of hr) (pv 1) pe_str (fun _ _ => rfl)) (pv 2) (fun _ _ => rfl)) (nomark _)) (pw_or1 (pt_cmpR (op_neD hr.units) (pe_meth0 (pe_ix ix_list (pe_fld (pv 0) rfl) (pv 2) (fun _ _ => rfl)) T.c_Box T.M_Box_letters (ok_Box_letters T) (hr.mono (by decide)) T.B_Box_letters .nil pass0) (pe_ix ix_list (pe_dget (hu_of hr) (pv 1) pe_str (fun _ _ => rfl)) (pv 2) (fun _ _ => rfl)) (nomark _))))) (pss_one (ps_ret pe_bl)) pss_nil)))
    (pss_one (ps_ret pe_bl))), ?_⟩
    have okS := okSz_at hM.okS
    have nc : noLs st.cells = true := hM.shC.no
    refine ⟨_, rfl, y.w, _, rfl, g_many hW.dict, _, rfl, by omega, by omega, for_range (lo := 0) (n := x.p.toNat) (fun i σ' H' => Same H H' ∧ ∃ x2, σ' = [some (.ref x.m), some (.ref y.w), x2]) ⟨Same.refl H, none, rfl⟩ ?_ ?_⟩
    · rintro i σ' H1 hi ⟨e1, x2, rfl⟩
      have hp : ((i : Nat) : Int) < x.p := by omega
      have hM1 := hM.same e1
      have hW1 := hW.fr (Fr.same hM e1) nc
      obtain ⟨yb, l0, zs0, hb0, hbv0, hB0, hE0, hzs0, lz0, hpb⟩ := st_buf hM1 hp
      obtain ⟨yx, vs0, hy0, hyv0, hX0, hXd0, hpx⟩ := st_box hM1 hp
      obtain ⟨as, ra, hb, hbl, hbr, hpa, zs, hz, hE, hzs, _, _⟩ := hW1.row hpb
      obtain ⟨xs, rx, gb, gbl, gbr, gpa, vs, gz, gzd, _, _⟩ := hW1.rox hpx
      have ei : (0 : Int) + ((i : Nat) : Int) = (i : Int) := Int.zero_add _
      refine ⟨_, rfl, x.m, _, x.dx, _, _, rfl, hM1.ins, T.c_Memory, T.n_Memory_buffers, rfl, _, rfl, x.bl, _, _, _, rfl, rfl, SqL.of hM1.bl, (by rw [ei]; exact at_nat hbv0), yb.1, yb.2, _, rfl, hB0.ins, rfl, yb.1, yb.2, l0, _, rfl, hB0, fun l1 h1 => ?_⟩
      have s1 := Same.new (o := .lst (zs0.map aV)) h1
      have hW2 := hW1.fr (Fr.same hM1 s1) nc
      refine ⟨_, rfl, y.w, _, rfl, g_bufs hW2.dict, _, rfl, y.b, _, _, _, rfl, rfl, SqL.of (s1 _ _ hb), (by rw [ei]; exact at_nat hpa), .list ((bufAt st i).map eD), .list ((bufAt st i).map eD), ?_, ?_, (shEns _).ok, (shEns _).ok, _, rfl, ifF (by rw [(shEns _).refl]; rfl) ?_⟩
      · rw [← hzs0]
        exact .lst (SqL.of upd_same) (dpAll_mono s1 (ens_dp hE0))
      · rw [← hzs]
        exact .lst (SqL.of (s1 _ _ hz)) (dpAll_mono s1 (ens_dp hE))
      have hM2 := hM1.same s1
      refine ⟨_, rfl, x.m, _, x.dx, _, _, rfl, hM2.ins, T.c_Memory, T.n_Memory_boxes, rfl, _, rfl, x.xl, _, _, _, rfl, rfl, SqL.of hM2.xl, (by rw [ei]; exact at_nat hyv0), yx.1, yx.2.1, _, rfl, s1 _ _ hX0.ins, rfl, yx.1, yx.2.1, yx.2.2, vs0, rfl, hX0.same s1, fun l2 h2 => ?_⟩
      have s2 := Same.new (o := .lst vs0) h2
      have hW3 := hW2.fr (Fr.same hM2 s2) nc
      have shL : Sh 4 (.list ((boxAt st i).map ltD)) := sh_lst fun d hd => by
        obtain ⟨l, _, rfl⟩ := List.mem_map.mp hd
        exact sh_lt l
      refine ⟨_, rfl, y.w, _, rfl, g_boxes hW3.dict, _, rfl, y.x, _, _, _, rfl, rfl, SqL.of ((s1.trans s2) _ _ gb), (by rw [ei]; exact at_nat gpa), .list ((boxAt st i).map ltD), .list ((boxAt st i).map ltD), .lst (SqL.of upd_same) (dpAll_mono (s1.trans s2) hXd0), .lst (SqL.of ((s1.trans s2) _ _ gz)) (dpAll_mono (s1.trans s2) gzd), shL.ok, shL.ok, _, rfl, ifF (by rw [shL.refl]; rfl) ?_⟩
      exact ⟨e1.trans (s1.trans s2), _, rfl⟩
    · rintro σ' H1 ⟨e1, x2, rfl⟩
      exact q H1 e1

structure SInv (x : MX) (s : Ts) (k : Nat) : Prop where
  fr : ∀ es ∈ s.bufs, ∀ e ∈ es, 0 ≤ e.f ∧ e.f < x.f
  bx : ∀ ls ∈ s.boxes, ls.length ≤ k ∧ ∀ l ∈ ls, l.ps.length ≤ 10
  wd : ∀ sp g, inS sp g → ∃ w, cellAt s.cells (wordC x.p sp g) = wD w ∧ ∀ f wr, w = .frame f wr → 0 ≤ f ∧ f < x.f
def WCond (x : MX) (r : Rq) : Prop := ∀ c d, r = .write c d → (∃ sp g, inS sp g ∧ c = wordC x.p sp g ∧ ∃ w, d = wD w ∧ ∀ f wr, w = .frame f wr → 0 ≤ f ∧ f < 4) ∨ (33 + x.p ≤ c)
theorem cellAt_ne {cells : List PyData} {j : Nat} {d : PyData} {c : Int} (h : j ≠ c.toNat) : cellAt (cells.set j d) c = cellAt cells c := by
  unfold cellAt
  rw [List.getElem?_set_ne h]
theorem cellAt_self {cells : List PyData} {j : Nat} {d : PyData} {c : Int} (h : j = c.toNat) (l : j < cells.length) : cellAt (cells.set j d) c = d := by
  unfold cellAt
  rw [← h, List.getElem?_set_self l]
  rfl
def Wds (x : MX) (cells : List PyData) : Prop := ∀ sp g, inS sp g → ∃ w, cellAt cells (wordC x.p sp g) = wD w ∧ ∀ f wr, w = .frame f wr → 0 ≤ f ∧ f < x.f
theorem Wds.keep {x : MX} {cells : List PyData} (h : Wds x cells) (p1 : 1 ≤ x.p) {j : Nat} (d : PyData) (hj : (j : Int) < 1 + x.p ∨ 33 + x.p ≤ (j : Int)) : Wds x (cells.set j d) := fun sp g hin => by
  obtain ⟨w, e, f⟩ := h sp g hin
  obtain ⟨⟨a0, a1⟩, ⟨b0, b1⟩⟩ := hin
  refine ⟨w, ?_, f⟩
  rw [cellAt_ne, e]
  unfold wordC
  omega
theorem last2_sub {es : List En} {e : En} (h : e ∈ last2 es) : e ∈ es := by
  unfold last2 at h
  split at h
  · exact List.mem_of_mem_drop h
  · exact h
theorem putM_sub {s p : Int} {x : Wd} {es : List En} {e : En} (h : e ∈ putM s p x es) : e ∈ es ∨ ∃ f w, x = .frame f w ∧ e.f = f := by
  cases x with
  | frame f w =>
    have h2 := last2_sub h
    rcases List.mem_append.mp h2 with h2 | h2
    · exact .inl (List.mem_filter.mp h2).1
    · rw [List.mem_singleton.mp h2]
      exact .inr ⟨f, w, rfl, rfl⟩
  | _ => exact .inl (List.mem_filter.mp h).1
theorem bufAt_mem {s : Ts} {p : Nat} {e : En} (h : e ∈ bufAt s p) : ∃ es ∈ s.bufs, e ∈ es := by
  unfold bufAt at h
  cases hb : s.bufs[p]? with
  | none =>
    rw [hb] at h
    exact absurd h List.not_mem_nil
  | some es =>
    rw [hb] at h
    exact ⟨es, mem_of_get hb, h⟩
theorem boxAt_mem {s : Ts} {k p : Nat} (h : ∀ ls ∈ s.boxes, ls.length ≤ k ∧ ∀ l ∈ ls, l.ps.length ≤ 10) : (boxAt s p).length ≤ k ∧ ∀ l ∈ boxAt s p, l.ps.length ≤ 10 := by
  unfold boxAt
  cases hb : s.boxes[p]? with
  | none => exact ⟨Nat.zero_le _, fun l hl => absurd hl List.not_mem_nil⟩
  | some ls => exact h ls (mem_of_get hb)
theorem SInv.next {x : MX} {s : Ts} {k p : Nat} {r : Rq} (h : SInv x s k) (x4 : x.f = 4) (p1 : 1 ≤ x.p) (hp : (p : Int) < x.p) (hl : (s.cells.length : Int) = cellsN x.p x.f x.b) (ok : RqOk x s r) (wc : WCond x r) : SInv x (tnext x.p s p r) (k + 1) := by
  have up : ∀ ls ∈ s.boxes, ls.length ≤ k + 1 ∧ ∀ l ∈ ls, l.ps.length ≤ 10 := fun ls hls => ⟨Nat.le_succ_of_le (h.bx ls hls).1, (h.bx ls hls).2⟩
  have frIn : ∀ {sp g : Int} {w : Bool} {f : Int}, frameM sp g w (bufAt s p) = some f → 0 ≤ f ∧ f < x.f := fun ef => by
    obtain ⟨e, he, rfl⟩ := frame_in ef
    obtain ⟨es, h1, h2⟩ := bufAt_mem he
    exact h.fr es h1 e h2
  cases r with
  | write c d =>
    obtain ⟨⟨c0, c1⟩, vk⟩ := ok
    refine ⟨h.fr, up, ?_⟩
    show Wds x (s.cells.set c.toNat d)
    rcases wc c d rfl with ⟨sp0, g0, ⟨⟨a0, a1⟩, ⟨b0, b1⟩⟩, rfl, w, rfl, hf⟩ | hc
    · intro sp g hin
      have hin2 := hin
      obtain ⟨⟨u0, u1⟩, ⟨v0, v1⟩⟩ := hin2
      by_cases e : wordC x.p sp0 g0 = wordC x.p sp g
      · refine ⟨w, cellAt_self (by rw [e]) (by omega), fun f wr e => by rw [x4]; exact hf f wr e⟩
      · obtain ⟨w2, e2, f2⟩ := h.wd sp g hin
        refine ⟨w2, ?_, f2⟩
        rw [cellAt_ne, e2]
        unfold wordC at e ⊢
        omega
    · exact Wds.keep h.wd p1 d (.inr (by omega))
  | walk sp g =>
    refine ⟨fun es hes e he => ?_, up, h.wd⟩
    have hes2 : es ∈ s.bufs.set p (putM sp g (wdOf (cellAt s.cells (wordC x.p sp g))) (bufAt s p)) := hes
    rcases List.mem_or_eq_of_mem_set hes2 with hes2 | rfl
    · exact h.fr es hes2 e he
    · obtain ⟨w, ew, fw⟩ := h.wd sp g ok.1
      rw [ew, putM_of] at he
      rcases putM_sub he with he | ⟨f, wr, hw, hf⟩
      · obtain ⟨es2, h1, h2⟩ := bufAt_mem he
        exact h.fr es2 h1 e h2
      · rw [hf]
        exact fw f wr hw
  | load sp g i =>
    have e : (runR x.p s p (.load sp g i)) = loadO x.p s i (frameM sp g false (bufAt s p)) := rfl
    have e2 : (loadO x.p s i (frameM sp g false (bufAt s p))).cells = s.cells ∧ (loadO x.p s i (frameM sp g false (bufAt s p))).bufs = s.bufs ∧ (loadO x.p s i (frameM sp g false (bufAt s p))).boxes = s.boxes := by
      cases frameM sp g false (bufAt s p) <;> exact ⟨rfl, rfl, rfl⟩
    obtain ⟨e3, e4, e5⟩ := e2
    refine ⟨?_, ?_, ?_⟩
    · show ∀ es ∈ (loadO x.p s i (frameM sp g false (bufAt s p))).bufs, _
      rw [e4]
      exact h.fr
    · show ∀ es ∈ (loadO x.p s i (frameM sp g false (bufAt s p))).boxes, _
      rw [e5]
      exact up
    · show Wds x (loadO x.p s i (frameM sp g false (bufAt s p))).cells
      rw [e3]
      exact h.wd
  | store sp g i d =>
    refine ⟨?_, ?_, ?_⟩
    · show ∀ es ∈ (storeO x.p s i d (frameM sp g true (bufAt s p))).bufs, _
      have : (storeO x.p s i d (frameM sp g true (bufAt s p))).bufs = s.bufs := by cases frameM sp g true (bufAt s p) <;> rfl
      rw [this]
      exact h.fr
    · show ∀ es ∈ (storeO x.p s i d (frameM sp g true (bufAt s p))).boxes, _
      have : (storeO x.p s i d (frameM sp g true (bufAt s p))).boxes = s.boxes := by cases frameM sp g true (bufAt s p) <;> rfl
      rw [this]
      exact up
    · show Wds x (storeO x.p s i d (frameM sp g true (bufAt s p))).cells
      cases ef : frameM sp g true (bufAt s p) with
      | none => exact h.wd
      | some f =>
        obtain ⟨f0, f1⟩ := frIn ef
        obtain ⟨_, ⟨i0, i1⟩, _⟩ := ok
        exact Wds.keep h.wd p1 d (.inr (by unfold frameC; omega))
  | change sp g i o n =>
    have e2 : ∀ f, (changeO x.p s i o n f).bufs = s.bufs ∧ (changeO x.p s i o n f).boxes = s.boxes := fun f => by
      cases f with
      | none => exact ⟨rfl, rfl⟩
      | some f =>
        unfold changeO
        dsimp only
        split <;> exact ⟨rfl, rfl⟩
    refine ⟨?_, ?_, ?_⟩
    · show ∀ es ∈ (changeO x.p s i o n (frameM sp g true (bufAt s p))).bufs, _
      rw [(e2 _).1]
      exact h.fr
    · show ∀ es ∈ (changeO x.p s i o n (frameM sp g true (bufAt s p))).boxes, _
      rw [(e2 _).2]
      exact up
    · show Wds x (changeO x.p s i o n (frameM sp g true (bufAt s p))).cells
      cases ef : frameM sp g true (bufAt s p) with
      | none => exact h.wd
      | some f =>
        obtain ⟨f0, f1⟩ := frIn ef
        obtain ⟨_, ⟨i0, i1⟩, _⟩ := ok
        unfold changeO
        dsimp only
        split
        · exact Wds.keep h.wd p1 n (.inr (by unfold frameC; omega))
        · exact h.wd
  | send to l =>
    refine ⟨h.fr, fun ls hls => ?_, h.wd⟩
    have hls2 : ls ∈ s.boxes.set to (boxAt s to ++ [l]) := hls
    obtain ⟨b1, b2⟩ := boxAt_mem (p := to) h.bx
    rcases List.mem_or_eq_of_mem_set hls2 with hls2 | rfl
    · exact up ls hls2
    · refine ⟨by rw [List.length_append, List.length_singleton]; omega, fun l2 hl2 => ?_⟩
      rcases List.mem_append.mp hl2 with hl2 | hl2
      · exact b2 l2 hl2
      · rw [List.mem_singleton.mp hl2]
        exact ok.2.few
  | take =>
    have e : runR x.p s p .take = takeO s p (boxAt s p) := rfl
    obtain ⟨b1, b2⟩ := boxAt_mem (p := p) h.bx
    unfold tnext
    rw [e]
    cases eb : boxAt s p with
    | nil => exact ⟨h.fr, up, h.wd⟩
    | cons l lr =>
      rw [eb] at b1 b2
      refine ⟨fun es hes e he => ?_, fun ls hls => ?_, ?_⟩
      · have hes2 : es ∈ s.bufs.set p ((bufAt s p).filter (keep l.ps)) := hes
        rcases List.mem_or_eq_of_mem_set hes2 with hes2 | rfl
        · exact h.fr es hes2 e he
        · obtain ⟨es2, h1, h2⟩ := bufAt_mem (List.mem_filter.mp he).1
          exact h.fr es2 h1 e h2
      · have hls2 : ls ∈ s.boxes.set p lr := hls
        rcases List.mem_or_eq_of_mem_set hls2 with hls2 | rfl
        · exact up ls hls2
        · simp only [List.length_cons] at b1
          exact ⟨by omega, fun l2 hl2 => b2 l2 (List.mem_cons_of_mem _ hl2)⟩
      · show Wds x (s.cells.set (1 + p) (.int l.t))
        exact Wds.keep h.wd p1 _ (.inl (by omega))
theorem val_ok {K : PySem.W.Frag} {C : Cl4} {H : Hp} {x : MX} {s : Ts} (hM : MemAt K C H x s.ms) (p : Nat) (r : Rq) : noL (runR x.p s p r).val = true ∧ Sh 21 (runR x.p s p r).val := by
  have cell : ∀ c, noL (cellAt s.cells c) = true ∧ Sh 20 (cellAt s.cells c) := fun c => by
    unfold cellAt
    cases hc : s.cells[c.toNat]? with
    | none => exact ⟨by simp only [Option.getD, noL], sh_none.up (by decide)⟩
    | some d => exact hM.shC d (mem_of_get hc)
  have one : ∀ c, noL (.tuple [cellAt s.cells c]) = true ∧ Sh 21 (.tuple [cellAt s.cells c]) := fun c => ⟨by simp only [noL, noLs, (cell c).1, Bool.and_self], sh_tup (sh_c (cell c).2 sh_n)⟩
  have b : ∀ b, noL (.bool b) = true ∧ Sh 21 (.bool b) := fun b => ⟨by simp only [noL], (sh_bool b).up (by decide)⟩
  have n : noL .none = true ∧ Sh 21 .none := ⟨by simp only [noL], sh_none.up (by decide)⟩
  cases r with
  | write c d => exact n
  | walk sp g => exact ⟨(cell _).1, (cell _).2.up (by decide)⟩
  | load sp g i =>
    show noL (loadO x.p s i (frameM sp g false (bufAt s p))).val = true ∧ Sh 21 (loadO x.p s i (frameM sp g false (bufAt s p))).val
    cases frameM sp g false (bufAt s p) with
    | none => exact n
    | some f => exact one _
  | store sp g i d =>
    show noL (storeO x.p s i d (frameM sp g true (bufAt s p))).val = true ∧ Sh 21 (storeO x.p s i d (frameM sp g true (bufAt s p))).val
    cases frameM sp g true (bufAt s p) with
    | none => exact b _
    | some f => exact b _
  | change sp g i o m =>
    show noL (changeO x.p s i o m (frameM sp g true (bufAt s p))).val = true ∧ Sh 21 (changeO x.p s i o m (frameM sp g true (bufAt s p))).val
    cases frameM sp g true (bufAt s p) with
    | none => exact n
    | some f =>
      unfold changeO
      dsimp only
      split
      · exact ⟨by simp only [noL, noLs, Bool.and_self], sh_tup (n := 20) (sh_c ((sh_str _ (by decide +kernel)).up (by decide)) sh_n)⟩
      · exact one _
  | send to l => exact n
  | take =>
    show noL (takeO s p (boxAt s p)).val = true ∧ Sh 21 (takeO s p (boxAt s p)).val
    cases boxAt s p with
    | nil => exact b _
    | cons l lr => exact b _
theorem sinv_init (x : MX) (s : Ts) (hb : ∀ es ∈ s.bufs, es = []) (hx : ∀ ls ∈ s.boxes, ls = []) (p1 : 1 ≤ x.p ∧ x.p ≤ 3) (hc : s.cells = firstD x.p x.f x.b) : SInv x s 0 := by
  refine ⟨fun es hes e he => ?_, fun ls hls => ?_, fun sp g hin => ⟨.non, ?_, fun f wr e => by cases e⟩⟩
  · rw [hb es hes] at he
    exact absurd he List.not_mem_nil
  · rw [hx ls hls]
    exact ⟨Nat.le_refl _, fun l hl => absurd hl List.not_mem_nil⟩
  · obtain ⟨⟨a0, a1⟩, ⟨b0, b1⟩⟩ := hin
    rw [hc]
    unfold cellAt firstD
    rw [List.append_assoc, List.append_assoc, List.getElem?_append_right (by rw [List.length_replicate]; unfold wordC; omega), List.getElem?_append_left (by rw [List.length_replicate, List.length_replicate]; unfold wordC; omega), List.getElem?_replicate, if_pos (by rw [List.length_replicate]; unfold wordC; omega)]
    rfl
theorem noLs_set {cells : List PyData} (h : noLs cells = true) {d : PyData} (n : noL d = true) (j : Nat) : noLs (cells.set j d) = true := noLs_of fun z hz => by
  have key : ∀ {ds : List PyData}, noLs ds = true → ∀ y ∈ ds, noL y = true := fun {ds} => by
    induction ds with
    | nil => intro _ y hy; exact absurd hy List.not_mem_nil
    | cons u us ih =>
      intro k y hy
      simp only [noLs, Bool.and_eq_true] at k
      rcases List.mem_cons.mp hy with rfl | hy
      · exact k.1
      · exact ih k.2 y hy
  rcases List.mem_or_eq_of_mem_set hz with hz | rfl
  · exact key h z hz
  · exact n
theorem noLs_after {x : MX} {s : Ts} {r : Rq} (h : noLs s.cells = true) (p : Nat) (ok : RqOk x s r) : noLs (after x.p s p r).cells = true := by
  cases r with
  | write c d => exact noLs_set h ok.2.no _
  | walk sp g => exact h
  | load sp g i =>
    rw [after_load]
    exact h
  | store sp g i d =>
    show noLs (storeO x.p s i d (frameM sp g true (bufAt s p))).cells = true
    cases frameM sp g true (bufAt s p) with
    | none => exact h
    | some f => exact noLs_set h ok.2.2.no _
  | change sp g i o n =>
    show noLs (changeO x.p s i o n (frameM sp g true (bufAt s p))).cells = true
    cases frameM sp g true (bufAt s p) with
    | none => exact h
    | some f =>
      unfold changeO
      dsimp only
      split
      · exact noLs_set h ok.2.2.2.no _
      · exact h
  | send to l => exact h
  | take =>
    show noLs (takeO s p (boxAt s p)).cells = true
    cases boxAt s p with
    | nil => exact h
    | cons l lr => exact noLs_set h (by simp only [noL]) _

end
def spLaw (K : PySem.W.Frag) : Sp := fun vs H Q _ => ∃ (p : Addr) (ns : List Int), vs = [.ref p] ∧ SqL K H p (ns.map V.int) ∧ ns.length ≤ 63 ∧ ∀ H', Q (.bl true) H'
structure LW (K : PySem.W.Frag) (C : Cl4) (H : Hp) (x : MX) (y : Wx) (s : Ts) (tp : Addr) (ts : List Int) : Prop where
  mem : MemAt K C H x s.ms
  w : WAt K H x y s
  tape : ts ≠ [] → H tp = some (.lst (ts.map V.int)) ∧ Off H x tp
  at_ : Apt y tp
  lg : ∃ lv, H y.l = some (.lst lv) ∧ DpAll K H lv s.log
  inv : SInv x s s.n
theorem LW.same {K : PySem.W.Frag} {C : Cl4} {H H' : Hp} {x : MX} {y : Wx} {s : Ts} {tp : Addr} {ts : List Int} (h : LW K C H x y s tp ts) (e : Same H H') : LW K C H' x y s tp ts := by
  obtain ⟨lv, l1, l2⟩ := h.lg
  exact ⟨h.mem.same e, h.w.fr (Fr.same h.mem e) h.mem.shC.no, fun n => ⟨e _ _ (h.tape n).1, (h.tape n).2.same h.mem e⟩, h.at_, ⟨lv, e _ _ l1, dpAll_mono e l2⟩, h.inv⟩
theorem put1 (P : Int) (a : Addr) : putK [((.inr "many" : Key), V.int P)] (.inr "held") (.ref a) = [(.inr "many", .int P), (.inr "held", .ref a)] := by rfl
theorem put2 (P : Int) (a b : Addr) : putK [((.inr "many" : Key), V.int P), (.inr "held", .ref a)] (.inr "buffers") (.ref b) = [(.inr "many", .int P), (.inr "held", .ref a), (.inr "buffers", .ref b)] := by rfl
theorem put3 (P : Int) (a b c : Addr) : putK [((.inr "many" : Key), V.int P), (.inr "held", .ref a), (.inr "buffers", .ref b)] (.inr "boxes") (.ref c) = wK P a b c := by rfl
section
variable {P : Program} {w : World} {K : PySem.W.Frag} {mg : Str → Option Value} {base : Heap} {a : Ad}
theorem ok_law (T : Txt w K mg a) : FnOk P w K mg base CX0 13 a.f_law a.d_law ["script"] (spLaw K) := by
  refine T.F_law.ok sc_law (fun vs H Q E h => ?_) (fun cdv A outer s H vs Q E hr h => ?_)
  · obtain ⟨p, ns, rfl, _⟩ := h
    rfl
  · obtain ⟨sp, ns, rfl, hS, hlen, q⟩ := h
    refine ⟨_, (pss_cons (ps_set (i := 1) sc_law.nd rfl (Or.inl rfl) (pe_call (ok__law_tape T) (hr.mono (by decide)) rfl T.m__law_tape T.F__law_tape.kp T.B__law_tape .nil pass0 (pa_cons (pv 0) pa_nil)))
    (pss_cons (ps_set (i := 2) sc_law.nd rfl (Or.inl rfl) (pe_op op_add pe_int (pe_op op_mod (pe_call (ok__law_at T) (hr.mono (by decide)) rfl T.m__law_at T.F__law_at.kp T.B__law_at .nil pass0 (pa_cons (pv 1) (pa_cons pe_int pa_nil))) pe_int)))
    (pss_cons (ps_set (i := 3) sc_law.nd rfl (Or.inr rfl) (pe_make T.mk_Memory (ok_Memory_init T) (hr.mono (by decide)) rfl T.m_Memory T.B_Memory_init .nil pass0 (pa_cons (pe_make T.mk_Sizes (ok_Sizes_init T) (hr.mono (by decide)) rfl T.m_Sizes T.B_Sizes_init .nil passL (pa_cons (pv 2) (pa_cons pe_int (pa_cons pe_int pa_nil)))) pa_nil)))
    (pss_cons (ps_set (i := 4) sc_law.nd rfl (Or.inl rfl) (pe_meth0 (pe_fld (pv 3) rfl) T.c_Sizes T.M_Sizes_cells (ok_Sizes_cells T) (hr.mono (by decide)) T.B_Sizes_cells .nil pass0))
    (pss_cons (ps_set (i := 5) sc_law.nd rfl (Or.inl rfl) (pe_callTy (call_dictP rfl) (by rfl) T.b_dict (by decide +kernel) (pa_cons (pe_lst (pa_cons (pe_tup (pa_cons pe_str (pa_cons (pv 2) pa_nil))) pa_nil)) pa_nil)))
    (pss_cons (ps_dput (hu_of hr) (pv 5) pe_str (pe_lc (own := [("cell", 13)]) (g := gName 13) (tt := tYes) rfl sc_law.nd (pi_range1 rfl T.b_range (pa_cons (pv 4) pa_nil)) (blkOk_by (own := [("cell", 13)]) (N := ["script", "tape", "many", "memory", "total", "w", "log", "k", "number", "p", "request", "due", "told", "cell"]) (sc := defScope s_law) (by decide +kernel)) (fun _ _ _ _ _ => (pg_name (i := 13) sc_law.nd rfl (Or.inl rfl))) (fun _ _ _ _ _ => pts_nil) (fun _ _ _ _ _ => (pe_meth (pv 3) T.c_Memory T.M_Memory_peek (ok_Memory_peek T) (hr.mono (by decide)) T.B_Memory_peek .nil passL (pa_cons (pv 13) pa_nil)))) rfl)
    (pss_cons (ps_dput (hu_of hr) (pv 5) pe_str (pe_lc (own := [("p", 9)]) (g := gName 9) (tt := tYes) rfl sc_law.nd (pi_range1 rfl T.b_range (pa_cons (pv 2) pa_nil)) (blkOk_by (own := [("p", 9)]) (N := ["script", "tape", "many", "memory", "total", "w", "log", "k", "number", "p", "request", "due", "told", "cell"]) (sc := defScope s_law) (by decide +kernel)) (fun _ _ _ _ _ => (pg_name (i := 9) sc_law.nd rfl (Or.inl rfl))) (fun _ _ _ _ _ => pts_nil) (fun _ _ _ _ _ => (pe_lst pa_nil))) rfl)
    (pss_cons (ps_dput (hu_of hr) (pv 5) pe_str (pe_lc (own := [("p", 9)]) (g := gName 9) (tt := tYes) rfl sc_law.nd (pi_range1 rfl T.b_range (pa_cons (pv 2) pa_nil)) (blkOk_by (own := [("p", 9)]) (N := ["script", "tape", "many", "memory", "total", "w", "log", "k", "number", "p", "request", "due", "told", "cell"]) (sc := defScope s_law) (by decide +kernel)) (fun _ _ _ _ _ => (pg_name (i := 9) sc_law.nd rfl (Or.inl rfl))) (fun _ _ _ _ _ => pts_nil) (fun _ _ _ _ _ => (pe_lst pa_nil))) rfl)
    (pss_cons (ps_set (i := 6) sc_law.nd rfl (Or.inl rfl) (pe_lst pa_nil))
    (pss_cons (ps_for PassesOwn.never rfl (pi_range1 rfl T.b_range (pa_cons (pe_callB (call_min2 rfl) (by rfl) T.b_min (by decide +kernel) (pa_cons pe_int (pa_cons (pe_callB (call_max2 rfl) (by rfl) T.b_max (by decide +kernel) (pa_cons pe_int (pa_cons (pe_op op_sub (pe_callB call_len_seq (by rfl) T.b_len (by decide +kernel) (pa_cons (pv 1) pa_nil)) pe_int) pa_nil))) pa_nil))) pa_nil)) (pg_name (i := 7) sc_law.nd rfl (Or.inl rfl))
    (pss_cons (ps_set (i := 8) sc_law.nd rfl (Or.inl rfl) (pe_call (ok__law_at T) (hr.mono (by decide)) rfl T.m__law_at T.F__law_at.kp T.B__law_at .nil pass0 (pa_cons (pv 1) (pa_cons (pe_op op_add (pv 7) pe_int) pa_nil))))
    (pss_cons (ps_set (i := 9) sc_law.nd rfl (Or.inl rfl) (pe_op op_mod (pe_op op_fdiv (pv 8) pe_int) (pv 2)))
    (pss_cons (ps_set (i := 10) sc_law.nd rfl (Or.inl rfl) (pe_call (ok__law_request T) (hr.mono (by decide)) rfl T.m__law_request T.F__law_request.kp T.B__law_request .nil pass0 (pa_cons (pv 5) (pa_cons (pv 8) (pa_cons (pe_call (ok__law_at T) (hr.mono (by decide)) rfl T.m__law_at T.F__law_at.kp T.B__law_at .nil pass0 (pa_cons (pv 1) (pa_cons (pe_op op_add (pv 7) pe_int) pa_nil))) (pa_cons (pe_call (ok__law_at T) (hr.mono (by decide)) rfl T.m__law_at T.F__law_at.kp T.B__law_at .nil pass0 (pa_cons (pv 1) (pa_cons (pe_op op_add (pv 7) pe_int) pa_nil))) pa_nil))))))
    (pss_cons (ps_set (i := 11) sc_law.nd rfl (Or.inl rfl) (pe_call (ok__law_due T) (hr.mono (by decide)) rfl T.m__law_due T.F__law_due.kp T.B__law_due .nil pass0 (pa_cons (pv 5) (pa_cons (pv 9) (pa_cons (pv 10) pa_nil)))))
    (pss_cons (ps_expr (pe_bm PySem.F.plainAttrs_list PySem.F.slot_list_append PySem.F.type_list_append mt_append (pv 6) (pa_cons (pe_tup (pa_cons (pe_op op_add (pv 7) pe_int) (pa_cons (pv 9) (pa_cons (pv 10) pa_nil)))) pa_nil)))
    (pss_cons (ps_set (i := 12) sc_law.nd rfl (Or.inl rfl) (pe_meth (pv 3) T.c_Memory T.M_Memory_access (ok_Memory_access T) (hr.mono (by decide)) T.B_Memory_access .nil passL (pa_cons (pv 9) (pa_cons (pv 10) pa_nil))))
    (pss_one (ps_if (PW.pt (pw_or (pt_not (pt_val (pe_callB call_isi (by rfl) T.b_isinstance (by decide +kernel) (pa_cons (pv 12) (pa_cons (pe_bltn (v := .ty "tuple") rfl T.b_tuple (by decide +kernel) rfl) pa_nil))))) (pw_or (pt_cmpR (op_ne) (pe_ix ix_tup (pv 12) pe_int (fun _ _ => rfl)) (pe_op op_add (pv 7) pe_int) (nomark _)) (pw_or (pt_not (pt_val (pe_call (ok__law_same T) (hr.mono (by decide)) rfl T.m__law_same T.F__law_same.kp T.B__law_same .nil pass0 (pa_cons (pe_ix ix_tup (pv 12) pe_int (fun _ _ => rfl)) (pa_cons (pv 11) pa_nil))))) (pw_or1 (pt_not (pt_val (pe_call (ok__law_looks T) (hr.mono (by decide)) rfl T.m__law_looks T.F__law_looks.kp T.B__law_looks .nil pass0 (pa_cons (pv 3) (pa_cons (pv 5) pa_nil)))))))))) (pss_one (ps_ret pe_bl)) pss_nil)))))))))
    (pss_cons (ps_for PassesOwn.never rfl (pi_range1 rfl T.b_range (pa_cons (pv 4) pa_nil)) (pg_name (i := 13) sc_law.nd rfl (Or.inl rfl))
    (pss_one (ps_if (pt_not (pt_val (pe_call (ok__law_same T) (hr.mono (by decide)) rfl T.m__law_same T.F__law_same.kp T.B__law_same .nil pass0 (pa_cons (pe_meth (pv 3) T.c_Memory T.M_Memory_peek (ok_Memory_peek T) (hr.mono (by decide)) T.B_Memory_peek .nil passL (pa_cons (pv 13) pa_nil)) (pa_cons (pe_ix ix_list (pe_dget (hu_of hr) (pv 5) pe_str (fun _ _ => rfl)) (pv 13) (fun _ _ => rfl)) pa_nil))))) (pss_one (ps_ret pe_bl)) pss_nil)))
    (pss_one (ps_ret (pe_and (pe_cmpR (op_eqD hr.units) (pe_meth0 (pv 3) T.c_Memory T.M_Memory_log (ok_Memory_log T) (hr.mono (by decide)) T.B_Memory_log .nil pass0) (pv 6) (nomark _)) (pe_one (pe_cmpR (op_eq) (pe_fld (pv 3) rfl) (pe_callB call_len_seq (by rfl) T.b_len (by decide +kernel) (pa_cons (pv 6) pa_nil)) (nomark _))))))))))))))))), ?_⟩
    refine ⟨_, rfl, sp, ns, rfl, hS, hlen, fun H1 tp ts e1 tp0 tpL dg tl => ?_⟩
    refine ⟨_, rfl, tp, ts, _, rfl, SqL.of tpL, by decide, dg, fun num n0 n1 => ⟨_, _, rfl, rfl, (by show (0 : Int) < 3; decide), _, _, rfl, rfl, ?_⟩⟩
    dsimp only
    have r0 := Int.emod_nonneg num (by decide : (3 : Int) ≠ 0)
    have r1 := Int.emod_lt_of_pos num (by decide : (0 : Int) < 3)
    obtain ⟨mn, emn⟩ : ∃ mn, mn = 1 + num % 3 := ⟨_, rfl⟩
    rw [← emn]
    have m3 : mn = 1 ∨ mn = 2 ∨ mn = 3 := by omega
    have okS : okSz mn 4 3 = true := by rcases m3 with rfl | rfl | rfl <;> decide
    clear emn r0 r1 n0 n1
    refine ⟨_, rfl, fun z dx nz ndx nzd => ⟨z, dx, mn, 4, 3, rfl, upd_same, fun _ H2 s2 hz => ⟨rfl, ?_⟩, fun k => absurd (okS.symm.trans k) (by decide)⟩⟩
    have tp2 : H2 tp = some (.lst (ts.map V.int)) := s2 _ _ (ne_of_none tpL nz) (by rw [upd_ne (ne_of_none tpL nz), upd_ne (ne_of_none tpL ndx)]; exact tpL)
    refine fun m mdx nm nmx nmd => ?_
    have gm : Same H2 (upd (upd H2 mdx (.own m)) m (.ins a.C_Memory mdx [])) := fun c u h => by
      rw [upd_ne (ne_of_none h nm), upd_ne (ne_of_none h nmx)]
      exact h
    refine ⟨m, mdx, z, dx, mn, 4, 3, rfl, upd_same, gm _ _ hz, okS, fun H3 x xm xdx xz xdz xp xf xb s3 fr3 hM3 => ⟨rfl, ?_⟩⟩
    have tp3 : H3 tp = some (.lst (ts.map V.int)) := s3 _ _ (ne_of_none tp2 nm) (gm _ _ tp2)
    have tpo : ts ≠ [] → Off H3 x tp := fun tn => by
      have hT : (upd (upd H2 mdx (.own m)) m (.ins a.C_Memory mdx [])) tp = some (.lst (ts.map V.int)) := gm _ _ tp2
      have nfr : ∀ c ∈ x.bl :: x.xl :: x.cl :: x.lg :: ((x.bs.map fun y => y.1) ++ x.xs.map fun y => y.2.2), tp ≠ c := fun c hc e => by
        have := fr3 c hc
        rw [← e, hT] at this
        cases this
      refine ⟨fun zz => ?_, fun y hy D e l hl zz => ?_⟩
      · refine nfr tp ?_ rfl
        simp only [List.mem_cons, List.mem_append] at zz ⊢
        rcases zz with h | h | h | h | h
        · exact .inl h
        · exact .inr (.inl h)
        · exact .inr (.inr (.inl h))
        · exact .inr (.inr (.inr (.inl h)))
        · exact .inr (.inr (.inr (.inr (.inr h))))
      · obtain ⟨i, hi, ei⟩ := List.mem_iff_getElem.mp hy
        have lb := hM3.lenB.2
        have hi2 : i < (initS mn 4 3).bufs.length := by omega
        obtain ⟨l2, zs, h1, _, h3, _⟩ := hM3.buf i y _ (by rw [List.getElem?_eq_getElem hi, ei]) (List.getElem?_eq_getElem hi2)
        have ez : zs = [] := by
          have : (initS mn 4 3).bufs[i] = [] := List.getElem_replicate _
          rw [this] at h3
          exact List.map_eq_nil_iff.mp h3
        have h4 := h1.ins
        rw [hl] at h4
        injection h4 with h4
        injection h4 with _ _ h4
        injection h4 with h4 _
        injection h4 with _ h4
        injection h4 with h4
        have h5 := h1.lst
        rw [← h4, zz, tp3, ez] at h5
        injection h5 with h5
        injection h5 with h5
        exact tn (List.map_eq_nil_iff.mp h5)
    subst xp
    subst xm
    obtain ⟨s0, es0⟩ : ∃ s0 : Ts, s0 = ⟨0, firstD x.p 4 3, List.replicate x.p.toNat [], List.replicate x.p.toNat [], []⟩ := ⟨_, rfl⟩
    have hM : MemAt K ⟨a.C_Memory, a.C_Sizes, a.C_Buffer, a.C_Box⟩ H3 x s0.ms := by
      have e : s0.ms = initS x.p 4 3 := by
        rw [es0]
        unfold Ts.ms initS
        rw [List.map_replicate]
        rfl
      rw [e]
      exact hM3
    have okP := okSz_at okS
    clear s3 fr3 gm s2 hz tp2 hM3
    have nc : noLs s0.cells = true := hM.shC.no
    have cN : cellsN x.p x.f x.b = 1 + x.p + 51 := by rw [xf, xb]; unfold cellsN; omega
    have cL : (s0.cells.length : Int) = 1 + x.p + 51 := by rw [← cN]; exact hM.lenC
    -- total
    refine ⟨_, rfl, x.m, _, x.dx, _, _, rfl, hM.ins, T.c_Memory, T.n_Memory_sizes, rfl, x.z, x.dz, _, rfl, hM.sz, rfl, x.z, x.dz, x.p, x.f, x.b, rfl, hM.sz, ?_⟩
    -- the dict
    refine ⟨_, rfl, (by show 2 ≤ sizeLine; decide), fun t1 h1 => ⟨(by show 1 ≤ sizeLine; decide), fun l1 hl1 => ⟨l1, [t1], [(.inr "many", .int x.p)], rfl, SqL.of upd_same, .cons (SqT.of (Same.new hl1 _ _ upd_same)) .nil, fun wA hwA => ?_⟩⟩⟩
    have e4 := ((Same.new (o := .tup [.str "many", .int x.p]) h1).trans (Same.new (o := .lst [.ref t1]) hl1)).trans (Same.new (o := .dK (mergeK [] [((.inr "many" : Key), V.int x.p)])) hwA)
    have hw4 : upd (upd (upd H3 t1 (.tup [.str "many", .int x.p])) l1 (.lst [.ref t1])) wA (.dK (mergeK [] [((.inr "many" : Key), V.int x.p)])) wA = some (.dK [((.inr "many" : Key), V.int x.p)]) := upd_same
    have nwA : H3 wA = none := ((Same.new (o := .tup [.str "many", .int x.p]) h1).trans (Same.new (o := .lst [.ref t1]) hl1)).free hwA
    generalize upd (upd (upd H3 t1 (.tup [.str "many", .int x.p])) l1 (.lst [.ref t1])) wA (.dK (mergeK [] [((.inr "many" : Key), V.int x.p)])) = H4 at e4 hw4 ⊢
    -- held
    refine ⟨_, rfl, _, rfl, (by omega), (by omega), fun hA hHA => ?_⟩
    have hM4 := hM.same e4
    refine lc_range (lo := 0) (n := (cellsN x.p x.f x.b).toNat) (fun i H' => ∃ G hv, i ≤ s0.cells.length ∧ H' = upd G hA (.lst hv) ∧ Same H4 G ∧ G hA = none ∧ DpAll K G hv (s0.cells.take i))
      ⟨H4, [], Nat.zero_le _, rfl, Same.refl _, hHA, .nil⟩ ?_ ?_
    · rintro i H' hi ⟨G, hv, i53, rfl, eS, gD, hd⟩
      have hi2 : i < s0.cells.length := by omega
      have e5 := eS.trans (Same.new (o := .lst hv) gD)
      have hM5 := hM4.same e5
      refine ⟨rfl, _, rfl, x.m, x.dx, _, rfl, hM5.ins, rfl, _, rfl, x, _, _, rfl, hM5, fun j ej v d h1 h2 => ?_, fun k => absurd ⟨by omega, by omega⟩ k⟩
      have ej2 : j = i := by omega
      subst ej2
      have hvl : hv.length = j := by rw [dpAll_len hd, List.length_take]; omega
      have nn := (hM.shC d (mem_of_get h1)).1
      have hd2 : Dp K G v d := by
        have kt : KT (upd G hA (.lst hv)) G := fun c u hc ht => by
          by_cases e : c = hA
          · rw [e, upd_same] at hc
            cases hc
            exact ht.elim
          · rw [upd_ne e] at hc
            exact hc
        exact dp_keep kt nn h2
      refine ⟨hv, upd_same, by rw [hvl]; exact Nat.lt_of_lt_of_le (by omega : j < 100) (by decide), G, hv ++ [v], by omega, by rw [upd_upd], eS, gD, ?_⟩
      rw [take_snoc (show s0.cells[j]? = some d from h1)]
      exact dpAll_app hd (.cons hd2 .nil)
    rintro H4' ⟨G, hv, _, rfl, eS, gD, hd⟩
    have e5 := eS.trans (Same.new (o := .lst hv) gD)
    have hd5 : DpAll K (upd G hA (.lst hv)) hv s0.cells := by
      have := dpAll_mono (Same.new (o := .lst hv) gD) hd
      rwa [List.take_of_length_le (by omega)] at this
    have hA5 : upd G hA (.lst hv) hA = some (.lst hv) := upd_same
    have n3h : H3 hA = none := e4.free hHA
    have hw5 := e5 _ _ hw4
    have e35 := e4.trans e5
    generalize upd G hA (.lst hv) = H5 at e5 e35 hd5 hA5 hw5 ⊢
    clear eS gD hd
    refine ⟨_, rfl, wA, _, rfl, DPut.k (k := .inr "held") hw5 (by show 1 < sizeLine; decide), ?_⟩
    rw [put1]
    have nhw : hA ≠ wA := ne_of hA5 hw5 (fun z => nomatch z)
    have e36 := Same.put (o := .dK [((.inr "many" : Key), V.int x.p), (.inr "held", .ref hA)]) e35 nwA
    have hw6 : upd H5 wA (.dK [((.inr "many" : Key), V.int x.p), (.inr "held", .ref hA)]) wA = some (.dK [((.inr "many" : Key), V.int x.p), (.inr "held", .ref hA)]) := upd_same
    have kt56 : KT H5 (upd H5 wA (.dK [((.inr "many" : Key), V.int x.p), (.inr "held", .ref hA)])) := KT.put fun o ho => by
      rw [hw5] at ho
      cases ho
      exact fun z => z
    have hA6 := (upd_ne nhw (o := .dK [((.inr "many" : Key), V.int x.p), (.inr "held", .ref hA)])).trans hA5
    have hd6 := dpAll_keep kt56 nc hd5
    generalize upd H5 wA (.dK [((.inr "many" : Key), V.int x.p), (.inr "held", .ref hA)]) = H6 at e36 hw6 hA6 hd6 ⊢
    -- rows: lists that are empty
    have mkRows : ∀ (H6 : Hp) (D : Addr) (Qd : Hp → Prop), H6 D = none → (∀ G (as : List Addr), Same H6 G → G D = none → as.length = x.p.toNat → (∀ c ∈ as, G c = some (.lst []) ∧ H6 c = none) → Qd (upd G D (.lst (as.map V.ref)))) → ∀ (te : TE) (wp : L2.St → L2.St) , True := fun _ _ _ _ _ _ _ => True.intro
    refine ⟨_, rfl, _, rfl, (by omega), (by omega), fun bA hbA => ?_⟩
    refine lc_range (lo := 0) (n := x.p.toNat) (fun i H' => ∃ G as, H' = upd G bA (.lst (as.map V.ref)) ∧ Same H6 G ∧ G bA = none ∧ as.length = i ∧ ∀ c ∈ as, G c = some (.lst []) ∧ H6 c = none)
      ⟨H6, [], rfl, Same.refl _, hbA, rfl, fun c hc => absurd hc List.not_mem_nil⟩ ?_ ?_
    · rintro i H' hi ⟨G, as, rfl, eS, gD, la, hr⟩
      refine ⟨rfl, Nat.zero_le _, fun l hl => ?_⟩
      obtain ⟨u1, u2, u3⟩ := new_under (o := .lst []) gD hl
      have ne : bA ≠ l := fun z => by
        rw [← z, upd_same] at hl
        cases hl
      refine ⟨as.map V.ref, (upd_ne ne).trans upd_same, by rw [List.length_map, la]; exact Nat.lt_of_lt_of_le (by omega : i < 100) (by decide), upd G l (.lst []), as ++ [l], ?_, eS.trans (Same.new u2), u3, by rw [List.length_append, la]; rfl, fun c hc => ?_⟩
      · rw [u1, upd_upd, List.map_append]
        rfl
      · rcases List.mem_append.mp hc with hc | hc
        · exact ⟨Same.new u2 _ _ (hr c hc).1, (hr c hc).2⟩
        · rw [List.mem_singleton.mp hc]
          exact ⟨upd_same, eS.free u2⟩
    rintro H6' ⟨G, bs, rfl, eS, gD, lbs, hbs⟩
    have e7 := eS.trans (Same.new (o := .lst (bs.map V.ref)) gD)
    have bA7 : upd G bA (.lst (bs.map V.ref)) bA = some (.lst (bs.map V.ref)) := upd_same
    have rows7 : ∀ c ∈ bs, upd G bA (.lst (bs.map V.ref)) c = some (.lst []) ∧ H6 c = none ∧ c ≠ bA := fun c hc => ⟨Same.new gD _ _ (hbs c hc).1, (hbs c hc).2, ne_of_none (hbs c hc).1 gD⟩
    have hw7 := e7 _ _ hw6
    have hA7 := e7 _ _ hA6
    have hd7 := dpAll_mono e7 hd6
    have e37 := e36.trans e7
    generalize upd G bA (.lst (bs.map V.ref)) = H7 at e7 bA7 rows7 hw7 hA7 hd7 e37 ⊢
    clear eS gD hbs
    refine ⟨_, rfl, wA, _, rfl, DPut.k (k := .inr "buffers") hw7 (by show 2 < sizeLine; decide), ?_⟩
    rw [put2]
    have e38 := Same.put (o := .dK [((.inr "many" : Key), V.int x.p), (.inr "held", .ref hA), (.inr "buffers", .ref bA)]) e37 nwA
    have nl : ∀ {c : Addr} {vs : List V} {o : HO}, H7 c = some (.lst vs) → upd H7 wA o c = some (.lst vs) := fun hc => (upd_ne (ne_of hc hw7 (fun z => nomatch z))).trans hc
    have kt78 : ∀ o : HO, KT H7 (upd H7 wA o) := fun o => KT.put fun o ho => by
      rw [hw7] at ho
      cases ho
      exact fun z => z
    have hw8 : upd H7 wA (.dK [((.inr "many" : Key), V.int x.p), (.inr "held", .ref hA), (.inr "buffers", .ref bA)]) wA = some (.dK [((.inr "many" : Key), V.int x.p), (.inr "held", .ref hA), (.inr "buffers", .ref bA)]) := upd_same
    have hA8 : upd H7 wA (.dK [((.inr "many" : Key), V.int x.p), (.inr "held", .ref hA), (.inr "buffers", .ref bA)]) hA = some (.lst hv) := nl hA7
    have bA8 : upd H7 wA (.dK [((.inr "many" : Key), V.int x.p), (.inr "held", .ref hA), (.inr "buffers", .ref bA)]) bA = some (.lst (bs.map V.ref)) := nl bA7
    have rows8 : ∀ c ∈ bs, upd H7 wA (.dK [((.inr "many" : Key), V.int x.p), (.inr "held", .ref hA), (.inr "buffers", .ref bA)]) c = some (.lst []) := fun c hc => nl (rows7 c hc).1
    have hd8 := dpAll_keep (kt78 (.dK [((.inr "many" : Key), V.int x.p), (.inr "held", .ref hA), (.inr "buffers", .ref bA)])) nc hd7
    generalize upd H7 wA (.dK [((.inr "many" : Key), V.int x.p), (.inr "held", .ref hA), (.inr "buffers", .ref bA)]) = H8 at e38 hw8 hA8 bA8 rows8 hd8 ⊢
    refine ⟨_, rfl, _, rfl, (by omega), (by omega), fun xA hxA => ?_⟩
    refine lc_range (lo := 0) (n := x.p.toNat) (fun i H' => ∃ G as, H' = upd G xA (.lst (as.map V.ref)) ∧ Same H8 G ∧ G xA = none ∧ as.length = i ∧ ∀ c ∈ as, G c = some (.lst []) ∧ H8 c = none)
      ⟨H8, [], rfl, Same.refl _, hxA, rfl, fun c hc => absurd hc List.not_mem_nil⟩ ?_ ?_
    · rintro i H' hi ⟨G, as, rfl, eS, gD, la, hr⟩
      refine ⟨rfl, Nat.zero_le _, fun l hl => ?_⟩
      obtain ⟨u1, u2, u3⟩ := new_under (o := .lst []) gD hl
      have ne : xA ≠ l := fun z => by
        rw [← z, upd_same] at hl
        cases hl
      refine ⟨as.map V.ref, (upd_ne ne).trans upd_same, by rw [List.length_map, la]; exact Nat.lt_of_lt_of_le (by omega : i < 100) (by decide), upd G l (.lst []), as ++ [l], ?_, eS.trans (Same.new u2), u3, by rw [List.length_append, la]; rfl, fun c hc => ?_⟩
      · rw [u1, upd_upd, List.map_append]
        rfl
      · rcases List.mem_append.mp hc with hc | hc
        · exact ⟨Same.new u2 _ _ (hr c hc).1, (hr c hc).2⟩
        · rw [List.mem_singleton.mp hc]
          exact ⟨upd_same, eS.free u2⟩
    rintro H8' ⟨G, gs, rfl, eS, gD, lgs, hgs⟩
    have e9 := eS.trans (Same.new (o := .lst (gs.map V.ref)) gD)
    have xA9 : upd G xA (.lst (gs.map V.ref)) xA = some (.lst (gs.map V.ref)) := upd_same
    have rowx9 : ∀ c ∈ gs, upd G xA (.lst (gs.map V.ref)) c = some (.lst []) ∧ H8 c = none ∧ c ≠ xA := fun c hc => ⟨Same.new gD _ _ (hgs c hc).1, (hgs c hc).2, ne_of_none (hgs c hc).1 gD⟩
    have hw9 := e9 _ _ hw8
    have hA9 := e9 _ _ hA8
    have bA9 := e9 _ _ bA8
    have rows9 : ∀ c ∈ bs, upd G xA (.lst (gs.map V.ref)) c = some (.lst []) := fun c hc => e9 _ _ (rows8 c hc)
    have hd9 := dpAll_mono e9 hd8
    have e39 := e38.trans e9
    generalize upd G xA (.lst (gs.map V.ref)) = H9 at e9 xA9 rowx9 hw9 hA9 bA9 rows9 hd9 e39 ⊢
    clear eS gD hgs
    refine ⟨_, rfl, wA, _, rfl, DPut.k (k := .inr "boxes") hw9 (by show 3 < sizeLine; decide), ?_⟩
    rw [put3]
    have e3A := Same.put (o := .dK (wK x.p hA bA xA)) e39 nwA
    have nl9 : ∀ {c : Addr} {vs : List V} {o : HO}, H9 c = some (.lst vs) → upd H9 wA o c = some (.lst vs) := fun hc => (upd_ne (ne_of hc hw9 (fun z => nomatch z))).trans hc
    have kt9A : KT H9 (upd H9 wA (.dK (wK x.p hA bA xA))) := KT.put fun o ho => by
      rw [hw9] at ho
      cases ho
      exact fun z => z
    have hwA' : upd H9 wA (.dK (wK x.p hA bA xA)) wA = some (.dK (wK x.p hA bA xA)) := upd_same
    have hAA : upd H9 wA (.dK (wK x.p hA bA xA)) hA = some (.lst hv) := nl9 hA9
    have bAA : upd H9 wA (.dK (wK x.p hA bA xA)) bA = some (.lst (bs.map V.ref)) := nl9 bA9
    have xAA : upd H9 wA (.dK (wK x.p hA bA xA)) xA = some (.lst (gs.map V.ref)) := nl9 xA9
    have rowsA : ∀ c ∈ bs, upd H9 wA (.dK (wK x.p hA bA xA)) c = some (.lst []) := fun c hc => nl9 (rows9 c hc)
    have rowxA : ∀ c ∈ gs, upd H9 wA (.dK (wK x.p hA bA xA)) c = some (.lst []) := fun c hc => nl9 (rowx9 c hc).1
    have hdA := dpAll_keep kt9A nc hd9
    generalize upd H9 wA (.dK (wK x.p hA bA xA)) = HA at e3A hwA' hAA bAA xAA rowsA rowxA hdA ⊢
    -- the law's log
    refine ⟨Nat.zero_le _, fun lA hlA => ?_⟩
    have eAB := Same.new (o := .lst []) hlA
    have e3B := e3A.trans eAB
    have hMB := hM.same e3B
    have off : ∀ {c : Addr}, H3 c = none → Off (upd HA lA (.lst [])) x c := fun hc => (Off.fresh hM hc).same hM e3B
    have n6 : ∀ {c : Addr}, H6 c = none → H3 c = none := fun hc => e36.free hc
    have n8 : ∀ {c : Addr}, H8 c = none → H3 c = none := fun hc => e38.free hc
    have tpA := e3A _ _ tp3
    have nA : ∀ {c : Addr} {vs : List V}, HA c = some (.lst vs) → c ≠ lA := fun hc => ne_of_none hc hlA
    have hWB : WAt K (upd HA lA (.lst [])) x ⟨wA, hA, bA, xA, lA⟩ s0 := by
      have hAn : hA ≠ bA := fun z => by rw [← z, hA6] at hbA; cases hbA
      have hxn : hA ≠ xA := fun z => by rw [← z, hA8] at hxA; cases hxA
      have bxn : bA ≠ xA := fun z => by rw [← z, bA8] at hxA; cases hxA
      refine ⟨eAB _ _ hwA', off n3h, off (n6 hbA), off (n8 hxA), hAn, hxn, bxn, (nA hAA).symm, (nA bAA).symm, (nA xAA).symm, off (e3A.free hlA), ⟨_, upd_same⟩, ⟨hv, eAB _ _ hAA, dpAll_mono eAB hdA⟩, ⟨bs, eAB _ _ bAA, by rw [lbs, es0]; simp, fun i c es h1 h2 => ?_⟩, ⟨gs, eAB _ _ xAA, by rw [lgs, es0]; simp, fun i c ls h1 h2 => ?_⟩⟩
      · have hc := mem_of_get h1
        have ee : es = [] := by
          have := mem_of_get h2
          rw [es0] at this
          exact List.eq_of_mem_replicate this
        rw [ee]
        have z1 : c ≠ hA := fun z => by
          have := (rows7 c hc).2.1
          rw [z, hA6] at this
          cases this
        have z2 : c ≠ xA := fun z => by
          have := rows8 c hc
          rw [z, hxA] at this
          cases this
        exact ⟨[], eAB _ _ (rowsA c hc), EnAll.nil _, rfl, off (n6 (rows7 c hc).2.1), ⟨z1, (rows7 c hc).2.2, z2, nA (rowsA c hc)⟩⟩
      · have hc := mem_of_get h1
        have ee : ls = [] := by
          have := mem_of_get h2
          rw [es0] at this
          exact List.eq_of_mem_replicate this
        rw [ee]
        have z1 : c ≠ hA := fun z => by
          have := (rowx9 c hc).2.1
          rw [z, hA8] at this
          cases this
        have z2 : c ≠ bA := fun z => by
          have := (rowx9 c hc).2.1
          rw [z, bA8] at this
          cases this
        exact ⟨[], eAB _ _ (rowxA c hc), .nil, off (n8 (rowx9 c hc).2.1), ⟨z1, z2, (rowx9 c hc).2.2, nA (rowxA c hc)⟩⟩
    have LB : LW K ⟨a.C_Memory, a.C_Sizes, a.C_Buffer, a.C_Box⟩ (upd HA lA (.lst [])) x ⟨wA, hA, bA, xA, lA⟩ s0 tp ts := by
      refine ⟨hMB, hWB, fun n => ⟨eAB _ _ tpA, (tpo n).same hM e3B⟩, ⟨?_, ?_, ?_, ?_⟩, ⟨[], upd_same, by rw [es0]; exact .nil⟩, ?_⟩
      · exact ne_of_none tp3 n3h
      · exact ne_of_none tp3 (n6 hbA)
      · exact ne_of_none tp3 (n8 hxA)
      · exact ne_of_none tpA hlA
      · have := sinv_init x s0 (fun es he => by rw [es0] at he; exact List.eq_of_mem_replicate he) (fun ls he => by rw [es0] at he; exact List.eq_of_mem_replicate he) okP.1 (by rw [es0, xf, xb])
        rw [show s0.n = 0 by rw [es0]]
        exact this
    have tpB := eAB _ _ tpA
    have n0s : s0.n = 0 := by rw [es0]
    generalize upd HA lA (.lst []) = HB at LB tpB ⊢
    clear eAB hWB hMB off n6 n8 e3B hd5 hd6 hd7 hd8 hd9 hdA hA5 hA6 hA7 hA8 hA9 hAA bA7 bA8 bA9 bAA xA9 xAA rows7 rows8 rows9 rowsA rowx9 rowxA hw4 hw5 hw6 hw7 hw8 hw9 hwA' nA nl nl9 kt78 kt56 kt9A e39 e38 e37 e36 e35 e9 e7 e5 e3A tpA es0 hM4 tpo mkRows
    refine ⟨_, rfl, tp, _, rfl, .inl (SqL.of tpB), _, _, rfl, rfl, _, _, rfl, _, _, rfl, ?_⟩
    rw [List.length_map]
    refine ⟨_, rfl, ?_, ?_, for_range (lo := 0) (n := _)
      (fun i σ H' => ∃ (x7 x8 x9 x10 x11 x12 x13 : Option V) (s : Ts), σ = [some (.ref sp), some (.ref tp), some (.int x.p), some (.ref x.m), some (.int (cellsN x.p x.f x.b)), some (.ref wA), some (.ref lA), x7, x8, x9, x10, x11, x12, x13] ∧ LW K ⟨a.C_Memory, a.C_Sizes, a.C_Buffer, a.C_Box⟩ H' x ⟨wA, hA, bA, xA, lA⟩ s tp ts ∧ s.n = i)
      ⟨none, none, none, none, none, none, none, s0, rfl, LB, n0s⟩ ?_ ?_⟩
    · split <;> split <;> omega
    · split <;> split <;> omega
    · rintro i σ H5 hi ⟨x7, x8, x9, x10, x11, x12, x13, s, rfl, L, sn⟩
      have hi2 : i < 90 ∧ i + 3 < ts.length := by
        split at hi <;> split at hi <;> omega
      have tsn : ts ≠ [] := fun e => by
        rw [e] at hi2
        simp at hi2
      obtain ⟨tp5, ot5⟩ := L.tape tsn
      refine ⟨_, rfl, _, rfl, _, _, rfl, rfl, tp, ts, _, rfl, SqL.of tp5, by omega, dg, fun num n0 n1 => ?_⟩
      have q0 := Int.emod_nonneg (num / 10) (by omega : x.p ≠ 0)
      have q1 := Int.emod_lt_of_pos (num / 10) (by omega : 0 < x.p)
      refine ⟨_, rfl, _, _, rfl, rfl, ⟨by decide, by decide⟩, _, rfl, _, _, rfl, rfl, (by show 0 < x.p; omega), ?_⟩
      obtain ⟨p, ep⟩ : ∃ p : Nat, num / 10 % x.p = (p : Int) := ⟨(num / 10 % x.p).toNat, by omega⟩
      dsimp only
      rw [ep]
      have hp : (p : Int) < x.p := by omega
      clear q0 q1 ep
      refine ⟨_, rfl, _, rfl, _, rfl, _, rfl, _, _, rfl, rfl, tp, ts, _, rfl, SqL.of tp5, by omega, dg, fun pk k0 k1 => ?_⟩
      refine ⟨_, rfl, _, rfl, _, _, rfl, rfl, tp, ts, _, rfl, SqL.of tp5, by omega, dg, fun o o0 o1 => ?_⟩
      refine ⟨x, ⟨wA, hA, bA, xA, lA⟩, num, pk, o, rfl, L.w.dict, okP.1, ⟨xf, xb⟩, n0, k0, o0, fun H6 t r e6 hr okr wc => ?_⟩
      have L6 := L.same e6
      have ok : RqOk x s r := okr s fun sp g hin => by
        obtain ⟨w, h1, _⟩ := L.inv.wd sp g hin
        exact ⟨w, h1⟩
      have tk : TOk x s := ⟨L.inv.fr, fun ls hls => ⟨by have := (L.inv.bx ls hls).1; omega, (L.inv.bx ls hls).2⟩⟩
      refine ⟨_, rfl, _, rfl, _, rfl, x, ⟨wA, hA, bA, xA, lA⟩, s, p, t, r, rfl, L6.mem, L6.w, tk, hp, hr, ok, True.intro, fun H7 v kp kt hM7 hW7 hv => ?_⟩
      obtain ⟨fw, nod, shd⟩ := rq_shape ok
      obtain ⟨vn, vs⟩ := val_ok L6.mem p r
      have hr7 := dp_keep kt nod hr
      obtain ⟨lv, hl6, hld6⟩ := L6.lg
      have nL : ∀ c ∈ [hA, bA, xA], ∃ vs, H6 c = some (.lst vs) := fun c hc => by
        simp only [List.mem_cons, List.not_mem_nil, or_false] at hc
        rcases hc with rfl | rfl | rfl
        · obtain ⟨vs, h1, _⟩ := L6.w.held
          exact ⟨vs, h1⟩
        · obtain ⟨vs, h1, _⟩ := L6.w.bufs
          exact ⟨_, h1⟩
        · obtain ⟨vs, h1, _⟩ := L6.w.boxes
          exact ⟨_, h1⟩
      have hl7 : H7 lA = some (.lst lv) := kp _ _ (by
        simp only [List.mem_cons, List.not_mem_nil, or_false, not_or]
        exact ⟨L6.w.lh, L6.w.lb, L6.w.lx⟩) hl6
      have tp7 : H7 tp = some (.lst (ts.map V.int)) := kp _ _ (by
        simp only [List.mem_cons, List.not_mem_nil, or_false, not_or]
        exact ⟨L6.at_.h, L6.at_.b, L6.at_.x⟩) (L6.tape tsn).1
      have ot7 := Off.kp (L6.tape tsn).2 L6.mem kp nL
      have ol7 := hW7.ol
      have lvl : lv.length = s.n := by
        rw [dpAll_len hld6]
        exact L6.mem.lenL
      refine ⟨_, rfl, .inl ⟨rfl, _, SqL.of hl7⟩, _, rfl, _, _, rfl, rfl, _, rfl, _, rfl, (by show 3 ≤ sizeLine; decide), fun t3 h3 => ?_⟩
      have e8 := Same.new (o := .tup [.int (0 + ((i : Nat) : Int) + 1), .int (p : Int), .ref t]) h3
      refine ⟨lA, lv, _, rfl, rfl, e8 _ _ hl7, by rw [lvl]; exact Nat.lt_of_lt_of_le (by omega : s.n < 1000) (by decide), ?_⟩
      have hM8 := hM7.same e8
      have nc7 : noLs (after x.p s p r).cells = true := noLs_after L6.mem.shC.no p ok
      have hW8 := hW7.fr (Fr.same hM7 e8) nc7
      have ol8 := ol7.same hM7 e8
      have hM9 := Ak.MemAt.aside (ws := lv ++ [.ref t3]) hM8 (e8 _ _ hl7) ol8
      have hW9 := hW8.setL (ws := lv ++ [.ref t3]) hM8 (e8 _ _ hl7) nc7
      have ol9 := ol8.put (r := lA) (u := .lst (lv ++ [.ref t3])) hM8 (e8 _ _ hl7)
      have ot9 := (ot7.same hM7 e8).put (r := lA) (u := .lst (lv ++ [.ref t3])) hM8 (e8 _ _ hl7)
      have kt79 : KT H7 (upd (upd H7 t3 (.tup [.int (0 + ((i : Nat) : Int) + 1), .int (p : Int), .ref t])) lA (.lst (lv ++ [.ref t3]))) := (KT.of e8).trans (KT.lst (e8 _ _ hl7))
      have tp9 : upd (upd H7 t3 (.tup [.int (0 + ((i : Nat) : Int) + 1), .int (p : Int), .ref t])) lA (.lst (lv ++ [.ref t3])) tp = some (.lst (ts.map V.int)) := (upd_ne L6.at_.l).trans (e8 _ _ tp7)
      have hl9 : upd (upd H7 t3 (.tup [.int (0 + ((i : Nat) : Int) + 1), .int (p : Int), .ref t])) lA (.lst (lv ++ [.ref t3])) lA = some (.lst (lv ++ [.ref t3])) := upd_same
      have ht9 : upd (upd H7 t3 (.tup [.int (0 + ((i : Nat) : Int) + 1), .int (p : Int), .ref t])) lA (.lst (lv ++ [.ref t3])) t3 = some (.tup [.int (0 + ((i : Nat) : Int) + 1), .int (p : Int), .ref t]) := KT.lst (e8 _ _ hl7) _ _ upd_same True.intro
      dsimp only
      generalize upd (upd H7 t3 (.tup [.int (0 + ((i : Nat) : Int) + 1), .int (p : Int), .ref t])) lA (.lst (lv ++ [.ref t3])) = H9 at hM9 hW9 ol9 ot9 kt79 tp9 hl9 ht9 ⊢
      have hr9 := dp_keep kt79 nod hr7
      have hv9 := dp_keep kt79 vn hv
      have hld9 : DpAll K H9 (lv ++ [.ref t3]) (s.log ++ [logT (s.n + 1) p r]) := by
        refine dpAll_app (dpAll_keep (kt.trans kt79) L6.mem.shL.no hld6) (.cons (.tup (SqT.of ht9) ?_) .nil)
        have ei : (0 + ((i : Nat) : Int) + 1) = (((s.n + 1 : Nat)) : Int) := by omega
        rw [ei]
        exact .cons (.int _) (.cons (.int _) (.cons hr9 .nil))
      clear hM7 hM8 hW7 hW8 ol7 ol8 ot7 tp7 hl7 hr7 hv e8 h3 kp nL hl6 hld6
      refine ⟨_, rfl, x.m, x.dx, _, rfl, hM9.ins, rfl, _, rfl, _, rfl, x, s, p, .ref t, r, rfl, hM9, tk, hp, hr9, ok, by omega, fun H10 v10 t10 f10 hM10 ht10 hv10 => ?_⟩
      have hW10 : WAt K H10 x ⟨wA, hA, bA, xA, lA⟩ (tnext x.p s p r) := (hW9.fr f10 nc7).eq rfl rfl rfl
      have hv10' := dp_keep f10.kt vn hv9
      refine ⟨_, rfl, _, _, _, _, _, rfl, .ty _, tyx (.tup (SqT.of ht10) (.cons hv10 (.cons (.int _) .nil))), kit_tup _, _, rfl, iteF ?_⟩
      refine ⟨_, rfl, t10, _, _, _, rfl, rfl, SqT.of ht10, at_of (j := 1) rfl rfl, _, rfl, _, _, rfl, rfl, rfl, _, rfl, ifF ?_ ?_⟩
      · simp only [Bool.not_eq_false', decide_eq_true_eq, V.int.injEq]
        omega
      refine ⟨_, rfl, t10, _, _, _, rfl, rfl, SqT.of ht10, at_of (j := 0) rfl rfl, _, rfl, v10, v, _, rfl, hv10, hv10', vs.up (by decide), _, rfl, iteF ?_⟩
      refine ⟨_, rfl, _, rfl, x, ⟨wA, hA, bA, xA, lA⟩, tnext x.p s p r, rfl, hM10, hW10, fun H11 e11 => ⟨_, rfl, iteF ?_⟩⟩
      obtain ⟨tp10, ot10⟩ := f10.lst tp9 ot9
      obtain ⟨hl10, ol10⟩ := f10.lst hl9 ol9
      have L10 : LW K ⟨a.C_Memory, a.C_Sizes, a.C_Buffer, a.C_Box⟩ H10 x ⟨wA, hA, bA, xA, lA⟩ (tnext x.p s p r) tp ts :=
        ⟨hM10, hW10, fun _ => ⟨tp10, ot10⟩, L.at_, ⟨_, hl10, dpAll_keep f10.kt hM10.shL.no hld9⟩, L.inv.next xf okP.1.1 hp L.mem.lenC ok wc⟩
      exact ⟨_, _, _, _, _, _, _, tnext x.p s p r, rfl, L10.same e11, congrArg (· + 1) sn⟩
    · rintro σ H5 ⟨x7, x8, x9, x10, x11, x12, x13, s, rfl, L, sn⟩
      have lenC : (s.cells.length : Int) = cellsN x.p x.f x.b := L.mem.lenC
      refine ⟨_, rfl, _, rfl, by omega, by omega, for_range (lo := 0) (n := (cellsN x.p x.f x.b).toNat) (fun i σ' H' => Same H5 H' ∧ ∃ x13, σ' = [some (.ref sp), some (.ref tp), some (.int x.p), some (.ref x.m), some (.int (cellsN x.p x.f x.b)), some (.ref wA), some (.ref lA), x7, x8, x9, x10, x11, x12, x13])
        ⟨Same.refl _, _, rfl⟩ ?_ ?_⟩
      · rintro i σ' H6 hi ⟨e6, y13, rfl⟩
        have L6 := L.same e6
        obtain ⟨vs, hc, hd⟩ := L6.w.held
        have lv := dpAll_len hd
        have hi2 : i < vs.length := by omega
        obtain ⟨d, g1, g2⟩ := dpAll_get hd (List.getElem?_eq_getElem hi2)
        refine ⟨_, rfl, x.m, x.dx, _, rfl, L6.mem.ins, rfl, _, rfl, x, s.ms, _, rfl, L6.mem, fun j ej v d2 h1 h2 => ?_, fun k => absurd ⟨by omega, by omega⟩ k⟩
        have ejn : j = i := by omega
        subst ejn
        have h1' : s.cells[j]? = some d2 := h1
        rw [g1] at h1'
        cases h1'
        have shd := (L6.mem.shC d (mem_of_get h1)).2
        refine ⟨_, rfl, wA, _, rfl, g_held L6.w.dict, _, rfl, hA, vs, _, _, rfl, rfl, SqL.of hc, at_of (j := j) (by omega) (List.getElem?_eq_getElem hi2), v, _, d, rfl, h2, g2, shd.up (by decide), _, rfl, iteF ?_⟩
        exact ⟨e6, _, rfl⟩
      · rintro σ' H6 ⟨e6, y13, rfl⟩
        have L6 := L.same e6
        have shLg : Sh 21 (.list s.log) := sh_lst fun d hd => (L6.mem.shL d hd).2
        refine ⟨_, rfl, x.m, x.dx, _, rfl, L6.mem.ins, rfl, x, s.ms, rfl, L6.mem, fun vs q8 hq8 hL8 => ?_⟩
        have e8 := Same.new (o := .lst vs) hq8
        have L8 := L6.same e8
        have hq8' : upd H6 q8 (.lst vs) q8 = some (.lst vs) := upd_same
        have hL8' := dpAll_mono e8 hL8
        generalize upd H6 q8 (.lst vs) = H8 at e8 L8 hq8' hL8' ⊢
        obtain ⟨lv, hl8, hld8⟩ := L8.lg
        have lvl : lv.length = s.n := by
          rw [dpAll_len hld8]
          exact L8.mem.lenL
        refine ⟨_, rfl, _, _, .lst (SqL.of hq8') hL8', .lst (SqL.of hl8) hld8, shLg.ok, shLg.ok, _, rfl, ifT shLg.refl ⟨_, rfl, x.m, _, x.dx, _, _, rfl, L8.mem.ins, T.c_Memory, T.n_Memory_count, rfl, _, rfl, lA, _, rfl, .inl (SqL.of hl8), rfl, ?_⟩⟩
        rw [lvl, show decide (V.int ((s.ms.n : Nat) : Int) = V.int ((s.n : Nat) : Int)) = true from decide_eq_true rfl]
        exact q _
end
theorem all_mk {l : PySem.W.OpenLaw} {w : World} {K : PySem.W.Frag} {h : Heap} {mg : Str → Option Value} {fa : Addr} (X : K.In h) (G : h.Ns mainGlobals mg) (hfa : mg "law" = some (.ref fa))
    {C_Buffer C_PageError C_NotValid C_Box C_Sizes C_Memory f_leads_to_frame f_Buffer_init f_Buffer_put f_Buffer_frame_for f_Buffer_drop f_Buffer_entries f_PageError_init f_is_whole f_is_number_below f_is_tuple_of f_is_pair f_is_letter f_Box_init f_Box_send f_Box_take f_Box_letters f_is_between f_is_value f_Sizes_init f_Sizes_acknowledge f_Sizes_word f_Sizes_frame_cell f_Sizes_cells f_first_values f_bound_of f_is_part f_is_request f_Memory_init f_Memory_access f_Memory_peek f_Memory_log f_Memory__result f_Memory__swap f_Memory__take f_Memory__walk f_Memory__reached f_Memory__load f_Memory__store f_Memory__change f__law_tape f__law_at f__law_put f__law_frame f__law_use f__law_due f__law_request f__law_same f__law_looks f_law : Addr}
    {od_leads_to_frame an_leads_to_frame : Option Addr} {sl_leads_to_frame : Array (Option Value)} {oc_leads_to_frame kV_leads_to_frame dc_leads_to_frame pm_leads_to_frame cd_leads_to_frame ct_leads_to_frame : Value}
    {od_Buffer_init an_Buffer_init : Option Addr} {sl_Buffer_init : Array (Option Value)} {oc_Buffer_init kV_Buffer_init dc_Buffer_init pm_Buffer_init cd_Buffer_init ct_Buffer_init : Value}
    {od_Buffer_put an_Buffer_put : Option Addr} {sl_Buffer_put : Array (Option Value)} {oc_Buffer_put kV_Buffer_put dc_Buffer_put pm_Buffer_put cd_Buffer_put ct_Buffer_put : Value}
    {od_Buffer_frame_for an_Buffer_frame_for : Option Addr} {sl_Buffer_frame_for : Array (Option Value)} {oc_Buffer_frame_for kV_Buffer_frame_for dc_Buffer_frame_for pm_Buffer_frame_for cd_Buffer_frame_for ct_Buffer_frame_for : Value}
    {od_Buffer_drop an_Buffer_drop : Option Addr} {sl_Buffer_drop : Array (Option Value)} {oc_Buffer_drop kV_Buffer_drop dc_Buffer_drop pm_Buffer_drop cd_Buffer_drop ct_Buffer_drop : Value}
    {od_Buffer_entries an_Buffer_entries : Option Addr} {sl_Buffer_entries : Array (Option Value)} {oc_Buffer_entries kV_Buffer_entries dc_Buffer_entries pm_Buffer_entries cd_Buffer_entries ct_Buffer_entries : Value}
    {od_PageError_init an_PageError_init : Option Addr} {sl_PageError_init : Array (Option Value)} {oc_PageError_init kV_PageError_init dc_PageError_init pm_PageError_init cd_PageError_init ct_PageError_init : Value}
    {od_is_whole an_is_whole : Option Addr} {sl_is_whole : Array (Option Value)} {oc_is_whole kV_is_whole dc_is_whole pm_is_whole cd_is_whole ct_is_whole : Value}
    {od_is_number_below an_is_number_below : Option Addr} {sl_is_number_below : Array (Option Value)} {oc_is_number_below kV_is_number_below dc_is_number_below pm_is_number_below cd_is_number_below ct_is_number_below : Value}
    {od_is_tuple_of an_is_tuple_of : Option Addr} {sl_is_tuple_of : Array (Option Value)} {oc_is_tuple_of kV_is_tuple_of dc_is_tuple_of pm_is_tuple_of cd_is_tuple_of ct_is_tuple_of : Value}
    {od_is_pair an_is_pair : Option Addr} {sl_is_pair : Array (Option Value)} {oc_is_pair kV_is_pair dc_is_pair pm_is_pair cd_is_pair ct_is_pair : Value}
    {od_is_letter an_is_letter : Option Addr} {sl_is_letter : Array (Option Value)} {oc_is_letter kV_is_letter dc_is_letter pm_is_letter cd_is_letter ct_is_letter : Value}
    {od_Box_init an_Box_init : Option Addr} {sl_Box_init : Array (Option Value)} {oc_Box_init kV_Box_init dc_Box_init pm_Box_init cd_Box_init ct_Box_init : Value}
    {od_Box_send an_Box_send : Option Addr} {sl_Box_send : Array (Option Value)} {oc_Box_send kV_Box_send dc_Box_send pm_Box_send cd_Box_send ct_Box_send : Value}
    {od_Box_take an_Box_take : Option Addr} {sl_Box_take : Array (Option Value)} {oc_Box_take kV_Box_take dc_Box_take pm_Box_take cd_Box_take ct_Box_take : Value}
    {od_Box_letters an_Box_letters : Option Addr} {sl_Box_letters : Array (Option Value)} {oc_Box_letters kV_Box_letters dc_Box_letters pm_Box_letters cd_Box_letters ct_Box_letters : Value}
    {od_is_between an_is_between : Option Addr} {sl_is_between : Array (Option Value)} {oc_is_between kV_is_between dc_is_between pm_is_between cd_is_between ct_is_between : Value}
    {od_is_value an_is_value : Option Addr} {sl_is_value : Array (Option Value)} {oc_is_value kV_is_value dc_is_value pm_is_value cd_is_value ct_is_value : Value}
    {od_Sizes_init an_Sizes_init : Option Addr} {sl_Sizes_init : Array (Option Value)} {oc_Sizes_init kV_Sizes_init dc_Sizes_init pm_Sizes_init cd_Sizes_init ct_Sizes_init : Value}
    {od_Sizes_acknowledge an_Sizes_acknowledge : Option Addr} {sl_Sizes_acknowledge : Array (Option Value)} {oc_Sizes_acknowledge kV_Sizes_acknowledge dc_Sizes_acknowledge pm_Sizes_acknowledge cd_Sizes_acknowledge ct_Sizes_acknowledge : Value}
    {od_Sizes_word an_Sizes_word : Option Addr} {sl_Sizes_word : Array (Option Value)} {oc_Sizes_word kV_Sizes_word dc_Sizes_word pm_Sizes_word cd_Sizes_word ct_Sizes_word : Value}
    {od_Sizes_frame_cell an_Sizes_frame_cell : Option Addr} {sl_Sizes_frame_cell : Array (Option Value)} {oc_Sizes_frame_cell kV_Sizes_frame_cell dc_Sizes_frame_cell pm_Sizes_frame_cell cd_Sizes_frame_cell ct_Sizes_frame_cell : Value}
    {od_Sizes_cells an_Sizes_cells : Option Addr} {sl_Sizes_cells : Array (Option Value)} {oc_Sizes_cells kV_Sizes_cells dc_Sizes_cells pm_Sizes_cells cd_Sizes_cells ct_Sizes_cells : Value}
    {od_first_values an_first_values : Option Addr} {sl_first_values : Array (Option Value)} {oc_first_values kV_first_values dc_first_values pm_first_values cd_first_values ct_first_values : Value}
    {od_bound_of an_bound_of : Option Addr} {sl_bound_of : Array (Option Value)} {oc_bound_of kV_bound_of dc_bound_of pm_bound_of cd_bound_of ct_bound_of : Value}
    {od_is_part an_is_part : Option Addr} {sl_is_part : Array (Option Value)} {oc_is_part kV_is_part dc_is_part pm_is_part cd_is_part ct_is_part : Value}
    {od_is_request an_is_request : Option Addr} {sl_is_request : Array (Option Value)} {oc_is_request kV_is_request dc_is_request pm_is_request cd_is_request ct_is_request : Value}
    {od_Memory_init an_Memory_init : Option Addr} {sl_Memory_init : Array (Option Value)} {oc_Memory_init kV_Memory_init dc_Memory_init pm_Memory_init cd_Memory_init ct_Memory_init : Value}
    {od_Memory_access an_Memory_access : Option Addr} {sl_Memory_access : Array (Option Value)} {oc_Memory_access kV_Memory_access dc_Memory_access pm_Memory_access cd_Memory_access ct_Memory_access : Value}
    {od_Memory_peek an_Memory_peek : Option Addr} {sl_Memory_peek : Array (Option Value)} {oc_Memory_peek kV_Memory_peek dc_Memory_peek pm_Memory_peek cd_Memory_peek ct_Memory_peek : Value}
    {od_Memory_log an_Memory_log : Option Addr} {sl_Memory_log : Array (Option Value)} {oc_Memory_log kV_Memory_log dc_Memory_log pm_Memory_log cd_Memory_log ct_Memory_log : Value}
    {od_Memory__result an_Memory__result : Option Addr} {sl_Memory__result : Array (Option Value)} {oc_Memory__result kV_Memory__result dc_Memory__result pm_Memory__result cd_Memory__result ct_Memory__result : Value}
    {od_Memory__swap an_Memory__swap : Option Addr} {sl_Memory__swap : Array (Option Value)} {oc_Memory__swap kV_Memory__swap dc_Memory__swap pm_Memory__swap cd_Memory__swap ct_Memory__swap : Value}
    {od_Memory__take an_Memory__take : Option Addr} {sl_Memory__take : Array (Option Value)} {oc_Memory__take kV_Memory__take dc_Memory__take pm_Memory__take cd_Memory__take ct_Memory__take : Value}
    {od_Memory__walk an_Memory__walk : Option Addr} {sl_Memory__walk : Array (Option Value)} {oc_Memory__walk kV_Memory__walk dc_Memory__walk pm_Memory__walk cd_Memory__walk ct_Memory__walk : Value}
    {od_Memory__reached an_Memory__reached : Option Addr} {sl_Memory__reached : Array (Option Value)} {oc_Memory__reached kV_Memory__reached dc_Memory__reached pm_Memory__reached cd_Memory__reached ct_Memory__reached : Value}
    {od_Memory__load an_Memory__load : Option Addr} {sl_Memory__load : Array (Option Value)} {oc_Memory__load kV_Memory__load dc_Memory__load pm_Memory__load cd_Memory__load ct_Memory__load : Value}
    {od_Memory__store an_Memory__store : Option Addr} {sl_Memory__store : Array (Option Value)} {oc_Memory__store kV_Memory__store dc_Memory__store pm_Memory__store cd_Memory__store ct_Memory__store : Value}
    {od_Memory__change an_Memory__change : Option Addr} {sl_Memory__change : Array (Option Value)} {oc_Memory__change kV_Memory__change dc_Memory__change pm_Memory__change cd_Memory__change ct_Memory__change : Value}
    {od__law_tape an__law_tape : Option Addr} {sl__law_tape : Array (Option Value)} {oc__law_tape kV__law_tape dc__law_tape pm__law_tape cd__law_tape ct__law_tape : Value}
    {od__law_at an__law_at : Option Addr} {sl__law_at : Array (Option Value)} {oc__law_at kV__law_at dc__law_at pm__law_at cd__law_at ct__law_at : Value}
    {od__law_put an__law_put : Option Addr} {sl__law_put : Array (Option Value)} {oc__law_put kV__law_put dc__law_put pm__law_put cd__law_put ct__law_put : Value}
    {od__law_frame an__law_frame : Option Addr} {sl__law_frame : Array (Option Value)} {oc__law_frame kV__law_frame dc__law_frame pm__law_frame cd__law_frame ct__law_frame : Value}
    {od__law_use an__law_use : Option Addr} {sl__law_use : Array (Option Value)} {oc__law_use kV__law_use dc__law_use pm__law_use cd__law_use ct__law_use : Value}
    {od__law_due an__law_due : Option Addr} {sl__law_due : Array (Option Value)} {oc__law_due kV__law_due dc__law_due pm__law_due cd__law_due ct__law_due : Value}
    {od__law_request an__law_request : Option Addr} {sl__law_request : Array (Option Value)} {oc__law_request kV__law_request dc__law_request pm__law_request cd__law_request ct__law_request : Value}
    {od__law_same an__law_same : Option Addr} {sl__law_same : Array (Option Value)} {oc__law_same kV__law_same dc__law_same pm__law_same cd__law_same ct__law_same : Value}
    {od__law_looks an__law_looks : Option Addr} {sl__law_looks : Array (Option Value)} {oc__law_looks kV__law_looks dc__law_looks pm__law_looks cd__law_looks ct__law_looks : Value}
    {od_law an_law : Option Addr} {sl_law : Array (Option Value)} {oc_law kV_law dc_law pm_law cd_law ct_law : Value}
    {t_CELLS : Tok}
    {t_FILES : Tok}
    {t_FILE_PAGES : Tok}
    {t_MOST_ENTRIES : Tok}
    {t_PAGES : Tok}
    {t_SPACES : Tok}
    {nmX qX : Str} {NX : Addr} {bsX : List Value} {snX : List Str} {subX : List Value} {abX : Bool} {colX : Option Bool} {ddX : Option Addr} {x0 x1 x2 x3 x5 : Option Value}
    {pP : Addr} {nP : Nat} {t0 t1 t2 t3 t4 t5 t6 t7 t8 : Addr} {m0 m1 m2 m3 m4 m5 m6 m7 m8 : Nat} {k0 k1 k2 k3 k4 k5 k6 k7 k8 j00 j10 j11 j20 j21 j22 j30 j31 j50 j51 j60 j61 j62 j70 j71 j72 j73 j80 j81 j82 j83 j84 : Tok}
    (g_Buffer : PySem.W.nsIn K mainGlobals "Buffer" = some (some (.ref C_Buffer)))
    (g_PageError : PySem.W.nsIn K mainGlobals "PageError" = some (some (.ref C_PageError)))
    (g_NotValid : PySem.W.nsIn K mainGlobals "NotValid" = some (some (.ref C_NotValid)))
    (g_Box : PySem.W.nsIn K mainGlobals "Box" = some (some (.ref C_Box)))
    (g_Sizes : PySem.W.nsIn K mainGlobals "Sizes" = some (some (.ref C_Sizes)))
    (g_Memory : PySem.W.nsIn K mainGlobals "Memory" = some (some (.ref C_Memory)))
    (a_leads_to_frame : PySem.W.nsIn K mainGlobals "leads_to_frame" = some (some (.ref f_leads_to_frame)))
    (l_leads_to_frame : K.lookup f_leads_to_frame = some ⟨oc_leads_to_frame, od_leads_to_frame, .func (PySem.W.fnOf "leads_to_frame" "leads_to_frame" (defArgs s_leads_to_frame) (defBody s_leads_to_frame) (defScope s_leads_to_frame) .none kV_leads_to_frame dc_leads_to_frame pm_leads_to_frame an_leads_to_frame cd_leads_to_frame ct_leads_to_frame), sl_leads_to_frame⟩)
    (c_leads_to_frame : PySem.W.codeIn K cd_leads_to_frame "leads_to_frame" = true)
    (k_leads_to_frame : PySem.W.keepIn K (.ref f_leads_to_frame) = true)
    (a_Buffer_init : PySem.W.findIn K (.ref C_Buffer) "__init__" = some (some (.ref f_Buffer_init)))
    (i_Buffer_init : PySem.W.isFn K (.ref f_Buffer_init) = true)
    (l_Buffer_init : K.lookup f_Buffer_init = some ⟨oc_Buffer_init, od_Buffer_init, .func (PySem.W.fnOf "__init__" "Buffer.__init__" (defArgs s_Buffer_init) (defBody s_Buffer_init) (defScope s_Buffer_init) .none kV_Buffer_init dc_Buffer_init pm_Buffer_init an_Buffer_init cd_Buffer_init ct_Buffer_init), sl_Buffer_init⟩)
    (c_Buffer_init : PySem.W.codeIn K cd_Buffer_init "Buffer.__init__" = true)
    (k_Buffer_init : PySem.W.keepIn K (.ref f_Buffer_init) = true)
    (a_Buffer_put : PySem.W.findIn K (.ref C_Buffer) "put" = some (some (.ref f_Buffer_put)))
    (i_Buffer_put : PySem.W.isFn K (.ref f_Buffer_put) = true)
    (l_Buffer_put : K.lookup f_Buffer_put = some ⟨oc_Buffer_put, od_Buffer_put, .func (PySem.W.fnOf "put" "Buffer.put" (defArgs s_Buffer_put) (defBody s_Buffer_put) (defScope s_Buffer_put) .none kV_Buffer_put dc_Buffer_put pm_Buffer_put an_Buffer_put cd_Buffer_put ct_Buffer_put), sl_Buffer_put⟩)
    (c_Buffer_put : PySem.W.codeIn K cd_Buffer_put "Buffer.put" = true)
    (k_Buffer_put : PySem.W.keepIn K (.ref f_Buffer_put) = true)
    (a_Buffer_frame_for : PySem.W.findIn K (.ref C_Buffer) "frame_for" = some (some (.ref f_Buffer_frame_for)))
    (i_Buffer_frame_for : PySem.W.isFn K (.ref f_Buffer_frame_for) = true)
    (l_Buffer_frame_for : K.lookup f_Buffer_frame_for = some ⟨oc_Buffer_frame_for, od_Buffer_frame_for, .func (PySem.W.fnOf "frame_for" "Buffer.frame_for" (defArgs s_Buffer_frame_for) (defBody s_Buffer_frame_for) (defScope s_Buffer_frame_for) .none kV_Buffer_frame_for dc_Buffer_frame_for pm_Buffer_frame_for an_Buffer_frame_for cd_Buffer_frame_for ct_Buffer_frame_for), sl_Buffer_frame_for⟩)
    (c_Buffer_frame_for : PySem.W.codeIn K cd_Buffer_frame_for "Buffer.frame_for" = true)
    (k_Buffer_frame_for : PySem.W.keepIn K (.ref f_Buffer_frame_for) = true)
    (a_Buffer_drop : PySem.W.findIn K (.ref C_Buffer) "drop" = some (some (.ref f_Buffer_drop)))
    (i_Buffer_drop : PySem.W.isFn K (.ref f_Buffer_drop) = true)
    (l_Buffer_drop : K.lookup f_Buffer_drop = some ⟨oc_Buffer_drop, od_Buffer_drop, .func (PySem.W.fnOf "drop" "Buffer.drop" (defArgs s_Buffer_drop) (defBody s_Buffer_drop) (defScope s_Buffer_drop) .none kV_Buffer_drop dc_Buffer_drop pm_Buffer_drop an_Buffer_drop cd_Buffer_drop ct_Buffer_drop), sl_Buffer_drop⟩)
    (c_Buffer_drop : PySem.W.codeIn K cd_Buffer_drop "Buffer.drop" = true)
    (k_Buffer_drop : PySem.W.keepIn K (.ref f_Buffer_drop) = true)
    (a_Buffer_entries : PySem.W.findIn K (.ref C_Buffer) "entries" = some (some (.ref f_Buffer_entries)))
    (i_Buffer_entries : PySem.W.isFn K (.ref f_Buffer_entries) = true)
    (l_Buffer_entries : K.lookup f_Buffer_entries = some ⟨oc_Buffer_entries, od_Buffer_entries, .func (PySem.W.fnOf "entries" "Buffer.entries" (defArgs s_Buffer_entries) (defBody s_Buffer_entries) (defScope s_Buffer_entries) .none kV_Buffer_entries dc_Buffer_entries pm_Buffer_entries an_Buffer_entries cd_Buffer_entries ct_Buffer_entries), sl_Buffer_entries⟩)
    (c_Buffer_entries : PySem.W.codeIn K cd_Buffer_entries "Buffer.entries" = true)
    (k_Buffer_entries : PySem.W.keepIn K (.ref f_Buffer_entries) = true)
    (a_PageError_init : PySem.W.findIn K (.ref C_PageError) "__init__" = some (some (.ref f_PageError_init)))
    (i_PageError_init : PySem.W.isFn K (.ref f_PageError_init) = true)
    (l_PageError_init : K.lookup f_PageError_init = some ⟨oc_PageError_init, od_PageError_init, .func (PySem.W.fnOf "__init__" "PageError.__init__" (defArgs s_PageError_init) (defBody s_PageError_init) (defScope s_PageError_init) .none kV_PageError_init dc_PageError_init pm_PageError_init an_PageError_init cd_PageError_init ct_PageError_init), sl_PageError_init⟩)
    (c_PageError_init : PySem.W.codeIn K cd_PageError_init "PageError.__init__" = true)
    (k_PageError_init : PySem.W.keepIn K (.ref f_PageError_init) = true)
    (a_is_whole : PySem.W.nsIn K mainGlobals "is_whole" = some (some (.ref f_is_whole)))
    (l_is_whole : K.lookup f_is_whole = some ⟨oc_is_whole, od_is_whole, .func (PySem.W.fnOf "is_whole" "is_whole" (defArgs s_is_whole) (defBody s_is_whole) (defScope s_is_whole) .none kV_is_whole dc_is_whole pm_is_whole an_is_whole cd_is_whole ct_is_whole), sl_is_whole⟩)
    (c_is_whole : PySem.W.codeIn K cd_is_whole "is_whole" = true)
    (k_is_whole : PySem.W.keepIn K (.ref f_is_whole) = true)
    (a_is_number_below : PySem.W.nsIn K mainGlobals "is_number_below" = some (some (.ref f_is_number_below)))
    (l_is_number_below : K.lookup f_is_number_below = some ⟨oc_is_number_below, od_is_number_below, .func (PySem.W.fnOf "is_number_below" "is_number_below" (defArgs s_is_number_below) (defBody s_is_number_below) (defScope s_is_number_below) .none kV_is_number_below dc_is_number_below pm_is_number_below an_is_number_below cd_is_number_below ct_is_number_below), sl_is_number_below⟩)
    (c_is_number_below : PySem.W.codeIn K cd_is_number_below "is_number_below" = true)
    (k_is_number_below : PySem.W.keepIn K (.ref f_is_number_below) = true)
    (a_is_tuple_of : PySem.W.nsIn K mainGlobals "is_tuple_of" = some (some (.ref f_is_tuple_of)))
    (l_is_tuple_of : K.lookup f_is_tuple_of = some ⟨oc_is_tuple_of, od_is_tuple_of, .func (PySem.W.fnOf "is_tuple_of" "is_tuple_of" (defArgs s_is_tuple_of) (defBody s_is_tuple_of) (defScope s_is_tuple_of) .none kV_is_tuple_of dc_is_tuple_of pm_is_tuple_of an_is_tuple_of cd_is_tuple_of ct_is_tuple_of), sl_is_tuple_of⟩)
    (c_is_tuple_of : PySem.W.codeIn K cd_is_tuple_of "is_tuple_of" = true)
    (k_is_tuple_of : PySem.W.keepIn K (.ref f_is_tuple_of) = true)
    (a_is_pair : PySem.W.nsIn K mainGlobals "is_pair" = some (some (.ref f_is_pair)))
    (l_is_pair : K.lookup f_is_pair = some ⟨oc_is_pair, od_is_pair, .func (PySem.W.fnOf "is_pair" "is_pair" (defArgs s_is_pair) (defBody s_is_pair) (defScope s_is_pair) .none kV_is_pair dc_is_pair pm_is_pair an_is_pair cd_is_pair ct_is_pair), sl_is_pair⟩)
    (c_is_pair : PySem.W.codeIn K cd_is_pair "is_pair" = true)
    (k_is_pair : PySem.W.keepIn K (.ref f_is_pair) = true)
    (a_is_letter : PySem.W.nsIn K mainGlobals "is_letter" = some (some (.ref f_is_letter)))
    (l_is_letter : K.lookup f_is_letter = some ⟨oc_is_letter, od_is_letter, .func (PySem.W.fnOf "is_letter" "is_letter" (defArgs s_is_letter) (defBody s_is_letter) (defScope s_is_letter) .none kV_is_letter dc_is_letter pm_is_letter an_is_letter cd_is_letter ct_is_letter), sl_is_letter⟩)
    (c_is_letter : PySem.W.codeIn K cd_is_letter "is_letter" = true)
    (k_is_letter : PySem.W.keepIn K (.ref f_is_letter) = true)
    (a_Box_init : PySem.W.findIn K (.ref C_Box) "__init__" = some (some (.ref f_Box_init)))
    (i_Box_init : PySem.W.isFn K (.ref f_Box_init) = true)
    (l_Box_init : K.lookup f_Box_init = some ⟨oc_Box_init, od_Box_init, .func (PySem.W.fnOf "__init__" "Box.__init__" (defArgs s_Box_init) (defBody s_Box_init) (defScope s_Box_init) .none kV_Box_init dc_Box_init pm_Box_init an_Box_init cd_Box_init ct_Box_init), sl_Box_init⟩)
    (c_Box_init : PySem.W.codeIn K cd_Box_init "Box.__init__" = true)
    (k_Box_init : PySem.W.keepIn K (.ref f_Box_init) = true)
    (a_Box_send : PySem.W.findIn K (.ref C_Box) "send" = some (some (.ref f_Box_send)))
    (i_Box_send : PySem.W.isFn K (.ref f_Box_send) = true)
    (l_Box_send : K.lookup f_Box_send = some ⟨oc_Box_send, od_Box_send, .func (PySem.W.fnOf "send" "Box.send" (defArgs s_Box_send) (defBody s_Box_send) (defScope s_Box_send) .none kV_Box_send dc_Box_send pm_Box_send an_Box_send cd_Box_send ct_Box_send), sl_Box_send⟩)
    (c_Box_send : PySem.W.codeIn K cd_Box_send "Box.send" = true)
    (k_Box_send : PySem.W.keepIn K (.ref f_Box_send) = true)
    (a_Box_take : PySem.W.findIn K (.ref C_Box) "take" = some (some (.ref f_Box_take)))
    (i_Box_take : PySem.W.isFn K (.ref f_Box_take) = true)
    (l_Box_take : K.lookup f_Box_take = some ⟨oc_Box_take, od_Box_take, .func (PySem.W.fnOf "take" "Box.take" (defArgs s_Box_take) (defBody s_Box_take) (defScope s_Box_take) .none kV_Box_take dc_Box_take pm_Box_take an_Box_take cd_Box_take ct_Box_take), sl_Box_take⟩)
    (c_Box_take : PySem.W.codeIn K cd_Box_take "Box.take" = true)
    (k_Box_take : PySem.W.keepIn K (.ref f_Box_take) = true)
    (a_Box_letters : PySem.W.findIn K (.ref C_Box) "letters" = some (some (.ref f_Box_letters)))
    (i_Box_letters : PySem.W.isFn K (.ref f_Box_letters) = true)
    (l_Box_letters : K.lookup f_Box_letters = some ⟨oc_Box_letters, od_Box_letters, .func (PySem.W.fnOf "letters" "Box.letters" (defArgs s_Box_letters) (defBody s_Box_letters) (defScope s_Box_letters) .none kV_Box_letters dc_Box_letters pm_Box_letters an_Box_letters cd_Box_letters ct_Box_letters), sl_Box_letters⟩)
    (c_Box_letters : PySem.W.codeIn K cd_Box_letters "Box.letters" = true)
    (k_Box_letters : PySem.W.keepIn K (.ref f_Box_letters) = true)
    (a_is_between : PySem.W.nsIn K mainGlobals "is_between" = some (some (.ref f_is_between)))
    (l_is_between : K.lookup f_is_between = some ⟨oc_is_between, od_is_between, .func (PySem.W.fnOf "is_between" "is_between" (defArgs s_is_between) (defBody s_is_between) (defScope s_is_between) .none kV_is_between dc_is_between pm_is_between an_is_between cd_is_between ct_is_between), sl_is_between⟩)
    (c_is_between : PySem.W.codeIn K cd_is_between "is_between" = true)
    (k_is_between : PySem.W.keepIn K (.ref f_is_between) = true)
    (a_is_value : PySem.W.nsIn K mainGlobals "is_value" = some (some (.ref f_is_value)))
    (l_is_value : K.lookup f_is_value = some ⟨oc_is_value, od_is_value, .func (PySem.W.fnOf "is_value" "is_value" (defArgs s_is_value) (defBody s_is_value) (defScope s_is_value) .none kV_is_value dc_is_value pm_is_value an_is_value cd_is_value ct_is_value), sl_is_value⟩)
    (c_is_value : PySem.W.codeIn K cd_is_value "is_value" = true)
    (k_is_value : PySem.W.keepIn K (.ref f_is_value) = true)
    (a_Sizes_init : PySem.W.findIn K (.ref C_Sizes) "__init__" = some (some (.ref f_Sizes_init)))
    (i_Sizes_init : PySem.W.isFn K (.ref f_Sizes_init) = true)
    (l_Sizes_init : K.lookup f_Sizes_init = some ⟨oc_Sizes_init, od_Sizes_init, .func (PySem.W.fnOf "__init__" "Sizes.__init__" (defArgs s_Sizes_init) (defBody s_Sizes_init) (defScope s_Sizes_init) .none kV_Sizes_init dc_Sizes_init pm_Sizes_init an_Sizes_init cd_Sizes_init ct_Sizes_init), sl_Sizes_init⟩)
    (c_Sizes_init : PySem.W.codeIn K cd_Sizes_init "Sizes.__init__" = true)
    (k_Sizes_init : PySem.W.keepIn K (.ref f_Sizes_init) = true)
    (a_Sizes_acknowledge : PySem.W.findIn K (.ref C_Sizes) "acknowledge" = some (some (.ref f_Sizes_acknowledge)))
    (i_Sizes_acknowledge : PySem.W.isFn K (.ref f_Sizes_acknowledge) = true)
    (l_Sizes_acknowledge : K.lookup f_Sizes_acknowledge = some ⟨oc_Sizes_acknowledge, od_Sizes_acknowledge, .func (PySem.W.fnOf "acknowledge" "Sizes.acknowledge" (defArgs s_Sizes_acknowledge) (defBody s_Sizes_acknowledge) (defScope s_Sizes_acknowledge) .none kV_Sizes_acknowledge dc_Sizes_acknowledge pm_Sizes_acknowledge an_Sizes_acknowledge cd_Sizes_acknowledge ct_Sizes_acknowledge), sl_Sizes_acknowledge⟩)
    (c_Sizes_acknowledge : PySem.W.codeIn K cd_Sizes_acknowledge "Sizes.acknowledge" = true)
    (k_Sizes_acknowledge : PySem.W.keepIn K (.ref f_Sizes_acknowledge) = true)
    (a_Sizes_word : PySem.W.findIn K (.ref C_Sizes) "word" = some (some (.ref f_Sizes_word)))
    (i_Sizes_word : PySem.W.isFn K (.ref f_Sizes_word) = true)
    (l_Sizes_word : K.lookup f_Sizes_word = some ⟨oc_Sizes_word, od_Sizes_word, .func (PySem.W.fnOf "word" "Sizes.word" (defArgs s_Sizes_word) (defBody s_Sizes_word) (defScope s_Sizes_word) .none kV_Sizes_word dc_Sizes_word pm_Sizes_word an_Sizes_word cd_Sizes_word ct_Sizes_word), sl_Sizes_word⟩)
    (c_Sizes_word : PySem.W.codeIn K cd_Sizes_word "Sizes.word" = true)
    (k_Sizes_word : PySem.W.keepIn K (.ref f_Sizes_word) = true)
    (a_Sizes_frame_cell : PySem.W.findIn K (.ref C_Sizes) "frame_cell" = some (some (.ref f_Sizes_frame_cell)))
    (i_Sizes_frame_cell : PySem.W.isFn K (.ref f_Sizes_frame_cell) = true)
    (l_Sizes_frame_cell : K.lookup f_Sizes_frame_cell = some ⟨oc_Sizes_frame_cell, od_Sizes_frame_cell, .func (PySem.W.fnOf "frame_cell" "Sizes.frame_cell" (defArgs s_Sizes_frame_cell) (defBody s_Sizes_frame_cell) (defScope s_Sizes_frame_cell) .none kV_Sizes_frame_cell dc_Sizes_frame_cell pm_Sizes_frame_cell an_Sizes_frame_cell cd_Sizes_frame_cell ct_Sizes_frame_cell), sl_Sizes_frame_cell⟩)
    (c_Sizes_frame_cell : PySem.W.codeIn K cd_Sizes_frame_cell "Sizes.frame_cell" = true)
    (k_Sizes_frame_cell : PySem.W.keepIn K (.ref f_Sizes_frame_cell) = true)
    (a_Sizes_cells : PySem.W.findIn K (.ref C_Sizes) "cells" = some (some (.ref f_Sizes_cells)))
    (i_Sizes_cells : PySem.W.isFn K (.ref f_Sizes_cells) = true)
    (l_Sizes_cells : K.lookup f_Sizes_cells = some ⟨oc_Sizes_cells, od_Sizes_cells, .func (PySem.W.fnOf "cells" "Sizes.cells" (defArgs s_Sizes_cells) (defBody s_Sizes_cells) (defScope s_Sizes_cells) .none kV_Sizes_cells dc_Sizes_cells pm_Sizes_cells an_Sizes_cells cd_Sizes_cells ct_Sizes_cells), sl_Sizes_cells⟩)
    (c_Sizes_cells : PySem.W.codeIn K cd_Sizes_cells "Sizes.cells" = true)
    (k_Sizes_cells : PySem.W.keepIn K (.ref f_Sizes_cells) = true)
    (a_first_values : PySem.W.nsIn K mainGlobals "first_values" = some (some (.ref f_first_values)))
    (l_first_values : K.lookup f_first_values = some ⟨oc_first_values, od_first_values, .func (PySem.W.fnOf "first_values" "first_values" (defArgs s_first_values) (defBody s_first_values) (defScope s_first_values) .none kV_first_values dc_first_values pm_first_values an_first_values cd_first_values ct_first_values), sl_first_values⟩)
    (c_first_values : PySem.W.codeIn K cd_first_values "first_values" = true)
    (k_first_values : PySem.W.keepIn K (.ref f_first_values) = true)
    (a_bound_of : PySem.W.nsIn K mainGlobals "bound_of" = some (some (.ref f_bound_of)))
    (l_bound_of : K.lookup f_bound_of = some ⟨oc_bound_of, od_bound_of, .func (PySem.W.fnOf "bound_of" "bound_of" (defArgs s_bound_of) (defBody s_bound_of) (defScope s_bound_of) .none kV_bound_of dc_bound_of pm_bound_of an_bound_of cd_bound_of ct_bound_of), sl_bound_of⟩)
    (c_bound_of : PySem.W.codeIn K cd_bound_of "bound_of" = true)
    (k_bound_of : PySem.W.keepIn K (.ref f_bound_of) = true)
    (a_is_part : PySem.W.nsIn K mainGlobals "is_part" = some (some (.ref f_is_part)))
    (l_is_part : K.lookup f_is_part = some ⟨oc_is_part, od_is_part, .func (PySem.W.fnOf "is_part" "is_part" (defArgs s_is_part) (defBody s_is_part) (defScope s_is_part) .none kV_is_part dc_is_part pm_is_part an_is_part cd_is_part ct_is_part), sl_is_part⟩)
    (c_is_part : PySem.W.codeIn K cd_is_part "is_part" = true)
    (k_is_part : PySem.W.keepIn K (.ref f_is_part) = true)
    (a_is_request : PySem.W.nsIn K mainGlobals "is_request" = some (some (.ref f_is_request)))
    (l_is_request : K.lookup f_is_request = some ⟨oc_is_request, od_is_request, .func (PySem.W.fnOf "is_request" "is_request" (defArgs s_is_request) (defBody s_is_request) (defScope s_is_request) .none kV_is_request dc_is_request pm_is_request an_is_request cd_is_request ct_is_request), sl_is_request⟩)
    (c_is_request : PySem.W.codeIn K cd_is_request "is_request" = true)
    (k_is_request : PySem.W.keepIn K (.ref f_is_request) = true)
    (a_Memory_init : PySem.W.findIn K (.ref C_Memory) "__init__" = some (some (.ref f_Memory_init)))
    (i_Memory_init : PySem.W.isFn K (.ref f_Memory_init) = true)
    (l_Memory_init : K.lookup f_Memory_init = some ⟨oc_Memory_init, od_Memory_init, .func (PySem.W.fnOf "__init__" "Memory.__init__" (defArgs s_Memory_init) (defBody s_Memory_init) (defScope s_Memory_init) .none kV_Memory_init dc_Memory_init pm_Memory_init an_Memory_init cd_Memory_init ct_Memory_init), sl_Memory_init⟩)
    (c_Memory_init : PySem.W.codeIn K cd_Memory_init "Memory.__init__" = true)
    (k_Memory_init : PySem.W.keepIn K (.ref f_Memory_init) = true)
    (a_Memory_access : PySem.W.findIn K (.ref C_Memory) "access" = some (some (.ref f_Memory_access)))
    (i_Memory_access : PySem.W.isFn K (.ref f_Memory_access) = true)
    (l_Memory_access : K.lookup f_Memory_access = some ⟨oc_Memory_access, od_Memory_access, .func (PySem.W.fnOf "access" "Memory.access" (defArgs s_Memory_access) (defBody s_Memory_access) (defScope s_Memory_access) .none kV_Memory_access dc_Memory_access pm_Memory_access an_Memory_access cd_Memory_access ct_Memory_access), sl_Memory_access⟩)
    (c_Memory_access : PySem.W.codeIn K cd_Memory_access "Memory.access" = true)
    (k_Memory_access : PySem.W.keepIn K (.ref f_Memory_access) = true)
    (a_Memory_peek : PySem.W.findIn K (.ref C_Memory) "peek" = some (some (.ref f_Memory_peek)))
    (i_Memory_peek : PySem.W.isFn K (.ref f_Memory_peek) = true)
    (l_Memory_peek : K.lookup f_Memory_peek = some ⟨oc_Memory_peek, od_Memory_peek, .func (PySem.W.fnOf "peek" "Memory.peek" (defArgs s_Memory_peek) (defBody s_Memory_peek) (defScope s_Memory_peek) .none kV_Memory_peek dc_Memory_peek pm_Memory_peek an_Memory_peek cd_Memory_peek ct_Memory_peek), sl_Memory_peek⟩)
    (c_Memory_peek : PySem.W.codeIn K cd_Memory_peek "Memory.peek" = true)
    (k_Memory_peek : PySem.W.keepIn K (.ref f_Memory_peek) = true)
    (a_Memory_log : PySem.W.findIn K (.ref C_Memory) "log" = some (some (.ref f_Memory_log)))
    (i_Memory_log : PySem.W.isFn K (.ref f_Memory_log) = true)
    (l_Memory_log : K.lookup f_Memory_log = some ⟨oc_Memory_log, od_Memory_log, .func (PySem.W.fnOf "log" "Memory.log" (defArgs s_Memory_log) (defBody s_Memory_log) (defScope s_Memory_log) .none kV_Memory_log dc_Memory_log pm_Memory_log an_Memory_log cd_Memory_log ct_Memory_log), sl_Memory_log⟩)
    (c_Memory_log : PySem.W.codeIn K cd_Memory_log "Memory.log" = true)
    (k_Memory_log : PySem.W.keepIn K (.ref f_Memory_log) = true)
    (a_Memory__result : PySem.W.findIn K (.ref C_Memory) "_result" = some (some (.ref f_Memory__result)))
    (i_Memory__result : PySem.W.isFn K (.ref f_Memory__result) = true)
    (l_Memory__result : K.lookup f_Memory__result = some ⟨oc_Memory__result, od_Memory__result, .func (PySem.W.fnOf "_result" "Memory._result" (defArgs s_Memory__result) (defBody s_Memory__result) (defScope s_Memory__result) .none kV_Memory__result dc_Memory__result pm_Memory__result an_Memory__result cd_Memory__result ct_Memory__result), sl_Memory__result⟩)
    (c_Memory__result : PySem.W.codeIn K cd_Memory__result "Memory._result" = true)
    (k_Memory__result : PySem.W.keepIn K (.ref f_Memory__result) = true)
    (a_Memory__swap : PySem.W.findIn K (.ref C_Memory) "_swap" = some (some (.ref f_Memory__swap)))
    (i_Memory__swap : PySem.W.isFn K (.ref f_Memory__swap) = true)
    (l_Memory__swap : K.lookup f_Memory__swap = some ⟨oc_Memory__swap, od_Memory__swap, .func (PySem.W.fnOf "_swap" "Memory._swap" (defArgs s_Memory__swap) (defBody s_Memory__swap) (defScope s_Memory__swap) .none kV_Memory__swap dc_Memory__swap pm_Memory__swap an_Memory__swap cd_Memory__swap ct_Memory__swap), sl_Memory__swap⟩)
    (c_Memory__swap : PySem.W.codeIn K cd_Memory__swap "Memory._swap" = true)
    (k_Memory__swap : PySem.W.keepIn K (.ref f_Memory__swap) = true)
    (a_Memory__take : PySem.W.findIn K (.ref C_Memory) "_take" = some (some (.ref f_Memory__take)))
    (i_Memory__take : PySem.W.isFn K (.ref f_Memory__take) = true)
    (l_Memory__take : K.lookup f_Memory__take = some ⟨oc_Memory__take, od_Memory__take, .func (PySem.W.fnOf "_take" "Memory._take" (defArgs s_Memory__take) (defBody s_Memory__take) (defScope s_Memory__take) .none kV_Memory__take dc_Memory__take pm_Memory__take an_Memory__take cd_Memory__take ct_Memory__take), sl_Memory__take⟩)
    (c_Memory__take : PySem.W.codeIn K cd_Memory__take "Memory._take" = true)
    (k_Memory__take : PySem.W.keepIn K (.ref f_Memory__take) = true)
    (a_Memory__walk : PySem.W.findIn K (.ref C_Memory) "_walk" = some (some (.ref f_Memory__walk)))
    (i_Memory__walk : PySem.W.isFn K (.ref f_Memory__walk) = true)
    (l_Memory__walk : K.lookup f_Memory__walk = some ⟨oc_Memory__walk, od_Memory__walk, .func (PySem.W.fnOf "_walk" "Memory._walk" (defArgs s_Memory__walk) (defBody s_Memory__walk) (defScope s_Memory__walk) .none kV_Memory__walk dc_Memory__walk pm_Memory__walk an_Memory__walk cd_Memory__walk ct_Memory__walk), sl_Memory__walk⟩)
    (c_Memory__walk : PySem.W.codeIn K cd_Memory__walk "Memory._walk" = true)
    (k_Memory__walk : PySem.W.keepIn K (.ref f_Memory__walk) = true)
    (a_Memory__reached : PySem.W.findIn K (.ref C_Memory) "_reached" = some (some (.ref f_Memory__reached)))
    (i_Memory__reached : PySem.W.isFn K (.ref f_Memory__reached) = true)
    (l_Memory__reached : K.lookup f_Memory__reached = some ⟨oc_Memory__reached, od_Memory__reached, .func (PySem.W.fnOf "_reached" "Memory._reached" (defArgs s_Memory__reached) (defBody s_Memory__reached) (defScope s_Memory__reached) .none kV_Memory__reached dc_Memory__reached pm_Memory__reached an_Memory__reached cd_Memory__reached ct_Memory__reached), sl_Memory__reached⟩)
    (c_Memory__reached : PySem.W.codeIn K cd_Memory__reached "Memory._reached" = true)
    (k_Memory__reached : PySem.W.keepIn K (.ref f_Memory__reached) = true)
    (a_Memory__load : PySem.W.findIn K (.ref C_Memory) "_load" = some (some (.ref f_Memory__load)))
    (i_Memory__load : PySem.W.isFn K (.ref f_Memory__load) = true)
    (l_Memory__load : K.lookup f_Memory__load = some ⟨oc_Memory__load, od_Memory__load, .func (PySem.W.fnOf "_load" "Memory._load" (defArgs s_Memory__load) (defBody s_Memory__load) (defScope s_Memory__load) .none kV_Memory__load dc_Memory__load pm_Memory__load an_Memory__load cd_Memory__load ct_Memory__load), sl_Memory__load⟩)
    (c_Memory__load : PySem.W.codeIn K cd_Memory__load "Memory._load" = true)
    (k_Memory__load : PySem.W.keepIn K (.ref f_Memory__load) = true)
    (a_Memory__store : PySem.W.findIn K (.ref C_Memory) "_store" = some (some (.ref f_Memory__store)))
    (i_Memory__store : PySem.W.isFn K (.ref f_Memory__store) = true)
    (l_Memory__store : K.lookup f_Memory__store = some ⟨oc_Memory__store, od_Memory__store, .func (PySem.W.fnOf "_store" "Memory._store" (defArgs s_Memory__store) (defBody s_Memory__store) (defScope s_Memory__store) .none kV_Memory__store dc_Memory__store pm_Memory__store an_Memory__store cd_Memory__store ct_Memory__store), sl_Memory__store⟩)
    (c_Memory__store : PySem.W.codeIn K cd_Memory__store "Memory._store" = true)
    (k_Memory__store : PySem.W.keepIn K (.ref f_Memory__store) = true)
    (a_Memory__change : PySem.W.findIn K (.ref C_Memory) "_change" = some (some (.ref f_Memory__change)))
    (i_Memory__change : PySem.W.isFn K (.ref f_Memory__change) = true)
    (l_Memory__change : K.lookup f_Memory__change = some ⟨oc_Memory__change, od_Memory__change, .func (PySem.W.fnOf "_change" "Memory._change" (defArgs s_Memory__change) (defBody s_Memory__change) (defScope s_Memory__change) .none kV_Memory__change dc_Memory__change pm_Memory__change an_Memory__change cd_Memory__change ct_Memory__change), sl_Memory__change⟩)
    (c_Memory__change : PySem.W.codeIn K cd_Memory__change "Memory._change" = true)
    (k_Memory__change : PySem.W.keepIn K (.ref f_Memory__change) = true)
    (a__law_tape : PySem.W.nsIn K mainGlobals "_law_tape" = some (some (.ref f__law_tape)))
    (l__law_tape : K.lookup f__law_tape = some ⟨oc__law_tape, od__law_tape, .func (PySem.W.fnOf "_law_tape" "_law_tape" (defArgs s__law_tape) (defBody s__law_tape) (defScope s__law_tape) .none kV__law_tape dc__law_tape pm__law_tape an__law_tape cd__law_tape ct__law_tape), sl__law_tape⟩)
    (c__law_tape : PySem.W.codeIn K cd__law_tape "_law_tape" = true)
    (k__law_tape : PySem.W.keepIn K (.ref f__law_tape) = true)
    (a__law_at : PySem.W.nsIn K mainGlobals "_law_at" = some (some (.ref f__law_at)))
    (l__law_at : K.lookup f__law_at = some ⟨oc__law_at, od__law_at, .func (PySem.W.fnOf "_law_at" "_law_at" (defArgs s__law_at) (defBody s__law_at) (defScope s__law_at) .none kV__law_at dc__law_at pm__law_at an__law_at cd__law_at ct__law_at), sl__law_at⟩)
    (c__law_at : PySem.W.codeIn K cd__law_at "_law_at" = true)
    (k__law_at : PySem.W.keepIn K (.ref f__law_at) = true)
    (a__law_put : PySem.W.nsIn K mainGlobals "_law_put" = some (some (.ref f__law_put)))
    (l__law_put : K.lookup f__law_put = some ⟨oc__law_put, od__law_put, .func (PySem.W.fnOf "_law_put" "_law_put" (defArgs s__law_put) (defBody s__law_put) (defScope s__law_put) .none kV__law_put dc__law_put pm__law_put an__law_put cd__law_put ct__law_put), sl__law_put⟩)
    (c__law_put : PySem.W.codeIn K cd__law_put "_law_put" = true)
    (k__law_put : PySem.W.keepIn K (.ref f__law_put) = true)
    (a__law_frame : PySem.W.nsIn K mainGlobals "_law_frame" = some (some (.ref f__law_frame)))
    (l__law_frame : K.lookup f__law_frame = some ⟨oc__law_frame, od__law_frame, .func (PySem.W.fnOf "_law_frame" "_law_frame" (defArgs s__law_frame) (defBody s__law_frame) (defScope s__law_frame) .none kV__law_frame dc__law_frame pm__law_frame an__law_frame cd__law_frame ct__law_frame), sl__law_frame⟩)
    (c__law_frame : PySem.W.codeIn K cd__law_frame "_law_frame" = true)
    (k__law_frame : PySem.W.keepIn K (.ref f__law_frame) = true)
    (a__law_use : PySem.W.nsIn K mainGlobals "_law_use" = some (some (.ref f__law_use)))
    (l__law_use : K.lookup f__law_use = some ⟨oc__law_use, od__law_use, .func (PySem.W.fnOf "_law_use" "_law_use" (defArgs s__law_use) (defBody s__law_use) (defScope s__law_use) .none kV__law_use dc__law_use pm__law_use an__law_use cd__law_use ct__law_use), sl__law_use⟩)
    (c__law_use : PySem.W.codeIn K cd__law_use "_law_use" = true)
    (k__law_use : PySem.W.keepIn K (.ref f__law_use) = true)
    (a__law_due : PySem.W.nsIn K mainGlobals "_law_due" = some (some (.ref f__law_due)))
    (l__law_due : K.lookup f__law_due = some ⟨oc__law_due, od__law_due, .func (PySem.W.fnOf "_law_due" "_law_due" (defArgs s__law_due) (defBody s__law_due) (defScope s__law_due) .none kV__law_due dc__law_due pm__law_due an__law_due cd__law_due ct__law_due), sl__law_due⟩)
    (c__law_due : PySem.W.codeIn K cd__law_due "_law_due" = true)
    (k__law_due : PySem.W.keepIn K (.ref f__law_due) = true)
    (a__law_request : PySem.W.nsIn K mainGlobals "_law_request" = some (some (.ref f__law_request)))
    (l__law_request : K.lookup f__law_request = some ⟨oc__law_request, od__law_request, .func (PySem.W.fnOf "_law_request" "_law_request" (defArgs s__law_request) (defBody s__law_request) (defScope s__law_request) .none kV__law_request dc__law_request pm__law_request an__law_request cd__law_request ct__law_request), sl__law_request⟩)
    (c__law_request : PySem.W.codeIn K cd__law_request "_law_request" = true)
    (k__law_request : PySem.W.keepIn K (.ref f__law_request) = true)
    (a__law_same : PySem.W.nsIn K mainGlobals "_law_same" = some (some (.ref f__law_same)))
    (l__law_same : K.lookup f__law_same = some ⟨oc__law_same, od__law_same, .func (PySem.W.fnOf "_law_same" "_law_same" (defArgs s__law_same) (defBody s__law_same) (defScope s__law_same) .none kV__law_same dc__law_same pm__law_same an__law_same cd__law_same ct__law_same), sl__law_same⟩)
    (c__law_same : PySem.W.codeIn K cd__law_same "_law_same" = true)
    (k__law_same : PySem.W.keepIn K (.ref f__law_same) = true)
    (a__law_looks : PySem.W.nsIn K mainGlobals "_law_looks" = some (some (.ref f__law_looks)))
    (l__law_looks : K.lookup f__law_looks = some ⟨oc__law_looks, od__law_looks, .func (PySem.W.fnOf "_law_looks" "_law_looks" (defArgs s__law_looks) (defBody s__law_looks) (defScope s__law_looks) .none kV__law_looks dc__law_looks pm__law_looks an__law_looks cd__law_looks ct__law_looks), sl__law_looks⟩)
    (c__law_looks : PySem.W.codeIn K cd__law_looks "_law_looks" = true)
    (k__law_looks : PySem.W.keepIn K (.ref f__law_looks) = true)
    (a_law : PySem.W.nsIn K mainGlobals "law" = some (some (.ref f_law)))
    (l_law : K.lookup f_law = some ⟨oc_law, od_law, .func (PySem.W.fnOf "law" "law" (defArgs s_law) (defBody s_law) (defScope s_law) .none kV_law dc_law pm_law an_law cd_law ct_law), sl_law⟩)
    (c_law : PySem.W.codeIn K cd_law "law" = true)
    (k_law : PySem.W.keepIn K (.ref f_law) = true)
    (pg_Buffer : PySem.W.plainGet K C_Buffer Str.empty = true)
    (hd_Buffer : PySem.W.hasDictIn K C_Buffer = true)
    (po_Buffer : PySem.W.plainOver K C_Buffer = true)
    (sa_Buffer : PySem.W.findIn K (.ref C_Buffer) "__setattr__" = some (some (.builtin "object.__setattr__")))
    (mk_Buffer : PySem.W.makesIn K C_Buffer = true)
    (kc_Buffer : PySem.W.keepIn K (.ref C_Buffer) = true)
    (n_Buffer__entries : PySem.W.findIn K (.ref C_Buffer) "_entries" = some none)
    (pg_Box : PySem.W.plainGet K C_Box Str.empty = true)
    (hd_Box : PySem.W.hasDictIn K C_Box = true)
    (po_Box : PySem.W.plainOver K C_Box = true)
    (sa_Box : PySem.W.findIn K (.ref C_Box) "__setattr__" = some (some (.builtin "object.__setattr__")))
    (mk_Box : PySem.W.makesIn K C_Box = true)
    (kc_Box : PySem.W.keepIn K (.ref C_Box) = true)
    (n_Box__letters : PySem.W.findIn K (.ref C_Box) "_letters" = some none)
    (pg_Sizes : PySem.W.plainGet K C_Sizes Str.empty = true)
    (hd_Sizes : PySem.W.hasDictIn K C_Sizes = true)
    (po_Sizes : PySem.W.plainOver K C_Sizes = true)
    (sa_Sizes : PySem.W.findIn K (.ref C_Sizes) "__setattr__" = some (some (.builtin "object.__setattr__")))
    (mk_Sizes : PySem.W.makesIn K C_Sizes = true)
    (kc_Sizes : PySem.W.keepIn K (.ref C_Sizes) = true)
    (n_Sizes_processors : PySem.W.findIn K (.ref C_Sizes) "processors" = some none)
    (n_Sizes_frames : PySem.W.findIn K (.ref C_Sizes) "frames" = some none)
    (n_Sizes_blocks : PySem.W.findIn K (.ref C_Sizes) "blocks" = some none)
    (n_Sizes__acknowledges : PySem.W.findIn K (.ref C_Sizes) "_acknowledges" = some none)
    (n_Sizes__words : PySem.W.findIn K (.ref C_Sizes) "_words" = some none)
    (n_Sizes__frame_cells : PySem.W.findIn K (.ref C_Sizes) "_frame_cells" = some none)
    (n_Sizes__swap_blocks : PySem.W.findIn K (.ref C_Sizes) "_swap_blocks" = some none)
    (n_Sizes__file_blocks : PySem.W.findIn K (.ref C_Sizes) "_file_blocks" = some none)
    (pg_Memory : PySem.W.plainGet K C_Memory Str.empty = true)
    (hd_Memory : PySem.W.hasDictIn K C_Memory = true)
    (po_Memory : PySem.W.plainOver K C_Memory = true)
    (sa_Memory : PySem.W.findIn K (.ref C_Memory) "__setattr__" = some (some (.builtin "object.__setattr__")))
    (mk_Memory : PySem.W.makesIn K C_Memory = true)
    (kc_Memory : PySem.W.keepIn K (.ref C_Memory) = true)
    (n_Memory_sizes : PySem.W.findIn K (.ref C_Memory) "sizes" = some none)
    (n_Memory_count : PySem.W.findIn K (.ref C_Memory) "count" = some none)
    (n_Memory_buffers : PySem.W.findIn K (.ref C_Memory) "buffers" = some none)
    (n_Memory_boxes : PySem.W.findIn K (.ref C_Memory) "boxes" = some none)
    (n_Memory__cells : PySem.W.findIn K (.ref C_Memory) "_cells" = some none)
    (n_Memory__log : PySem.W.findIn K (.ref C_Memory) "_log" = some none)
    (z_CELLS : PySem.W.nsIn K mainGlobals "CELLS" = some (some (.int 2 t_CELLS)))
    (z_FILES : PySem.W.nsIn K mainGlobals "FILES" = some (some (.int 2 t_FILES)))
    (z_FILE_PAGES : PySem.W.nsIn K mainGlobals "FILE_PAGES" = some (some (.int 4 t_FILE_PAGES)))
    (z_MOST_ENTRIES : PySem.W.nsIn K mainGlobals "MOST_ENTRIES" = some (some (.int 2 t_MOST_ENTRIES)))
    (z_PAGES : PySem.W.nsIn K mainGlobals "PAGES" = some (some (.int 8 t_PAGES)))
    (z_SPACES : PySem.W.nsIn K mainGlobals "SPACES" = some (some (.int 4 t_SPACES)))
    (z_ValueError : PySem.W.nsIn K mainGlobals "ValueError" = some none)
    (z_abs : PySem.W.nsIn K mainGlobals "abs" = some none)
    (z_all : PySem.W.nsIn K mainGlobals "all" = some none)
    (z_bool : PySem.W.nsIn K mainGlobals "bool" = some none)
    (z_dict : PySem.W.nsIn K mainGlobals "dict" = some none)
    (z_int : PySem.W.nsIn K mainGlobals "int" = some none)
    (z_isinstance : PySem.W.nsIn K mainGlobals "isinstance" = some none)
    (z_len : PySem.W.nsIn K mainGlobals "len" = some none)
    (z_list : PySem.W.nsIn K mainGlobals "list" = some none)
    (z_max : PySem.W.nsIn K mainGlobals "max" = some none)
    (z_min : PySem.W.nsIn K mainGlobals "min" = some none)
    (z_range : PySem.W.nsIn K mainGlobals "range" = some none)
    (z_str : PySem.W.nsIn K mainGlobals "str" = some none)
    (z_tuple : PySem.W.nsIn K mainGlobals "tuple" = some none)
    (z_zip : PySem.W.nsIn K mainGlobals "zip" = some none)
    (y_xL : K.lookup C_NotValid = some (excClassObj nmX qX C_NotValid NX bsX [.ref C_PageError, .type "ValueError", .type "Exception", .type "BaseException", .type "object"] true snX subX abX colX ddX x0 x1 x2 x3 x5 "ValueError.__new__"))
    (y_vV : PySem.W.findCls K (.type "ValueError") (.type "type") "__init__" = some (.val (.builtin "ValueError.__init__")))
    (y_xi_NotValid : PySem.W.findIn K (.ref C_NotValid) "__init__" = some (some (.ref f_PageError_init)))
    (y_xt_NotValid : PySem.W.typeIn K (.ref f_PageError_init) = some (.type "function"))
    (y_xs_NotValid : PySem.W.findIn K (.ref C_NotValid) "__setattr__" = some (some (.builtin "object.__setattr__")))
    (y_xb_NotValid : PySem.W.subIn K (.ref C_NotValid) (.type "BaseException") = some true)
    (y_xy_NotValid : PySem.W.typeIn K (.ref C_NotValid) = some (.type "type"))
    (y_xk_NotValid : PySem.W.keepIn K (.ref C_NotValid) = true)
    (y_e1 : PySem.W.findIn K (.ref C_NotValid) "__getattribute__" = some (some (.builtin "BaseException.__getattribute__")))
    (y_e2 : PySem.W.findIn K (.ref C_NotValid) "__getattr__" = some none)
    (y_e4 : PySem.W.hasDictIn K C_NotValid = true)
    (y_e5 : PySem.W.findIn K (.ref C_NotValid) "__class__" = some (some (.builtin "object.__class__")))
    (y_e6 : PySem.W.specialIn K (.builtin "object.__class__") "__get__" = some (some (.builtin "getset_descriptor.__get__")))
    (y_e7 : PySem.W.takesIn K (.builtin "object.__class__") = some true)
    (y_e8 : PySem.W.mroIn K C_NotValid (.type "object") = some true)
    (y_p1 : PySem.W.subIn K (.ref C_PageError) (.type "BaseException") = some true)
    (y_p2 : PySem.W.hasDictIn K C_PageError = true)
    (y_p3 : PySem.W.typeIn K (.ref C_PageError) = some (.type "type"))
    (y_p4 : PySem.W.subIn K (.ref C_NotValid) (.ref C_PageError) = some true)
    (y_q4 : PySem.W.kitOne K (.ref C_NotValid) (.ref C_NotValid) = some true)
    (y_gP : PySem.W.nsIn K mainGlobals "PARTS" = some (some (.ref pP)))
    (y_sP : (pP == sysModules) = false)
    (y_lP : K.lookup pP = some ⟨.type "dict", none, .dict #[⟨PyData.keyHash w.params "read", .str "read" k0, .ref t0⟩, ⟨PyData.keyHash w.params "write", .str "write" k1, .ref t1⟩, ⟨PyData.keyHash w.params "swap", .str "swap" k2, .ref t2⟩, ⟨PyData.keyHash w.params "send", .str "send" k3, .ref t3⟩, ⟨PyData.keyHash w.params "take", .str "take" k4, .ref t4⟩, ⟨PyData.keyHash w.params "walk", .str "walk" k5, .ref t5⟩, ⟨PyData.keyHash w.params "load", .str "load" k6, .ref t6⟩, ⟨PyData.keyHash w.params "store", .str "store" k7, .ref t7⟩, ⟨PyData.keyHash w.params "change", .str "change" k8, .ref t8⟩] nP, #[]⟩)
    (y_t0 : K.lookup t0 = some ⟨.type "tuple", none, .seq #[.str "cell" j00] m0, #[]⟩)
    (y_t1 : K.lookup t1 = some ⟨.type "tuple", none, .seq #[.str "cell" j10, .str "value" j11] m1, #[]⟩)
    (y_t2 : K.lookup t2 = some ⟨.type "tuple", none, .seq #[.str "cell" j20, .str "value" j21, .str "value" j22] m2, #[]⟩)
    (y_t3 : K.lookup t3 = some ⟨.type "tuple", none, .seq #[.str "processor" j30, .str "letter" j31] m3, #[]⟩)
    (y_t4 : K.lookup t4 = some ⟨.type "tuple", none, .seq #[] m4, #[]⟩)
    (y_t5 : K.lookup t5 = some ⟨.type "tuple", none, .seq #[.str "space" j50, .str "page" j51] m5, #[]⟩)
    (y_t6 : K.lookup t6 = some ⟨.type "tuple", none, .seq #[.str "space" j60, .str "page" j61, .str "index" j62] m6, #[]⟩)
    (y_t7 : K.lookup t7 = some ⟨.type "tuple", none, .seq #[.str "space" j70, .str "page" j71, .str "index" j72, .str "value" j73] m7, #[]⟩)
    (y_t8 : K.lookup t8 = some ⟨.type "tuple", none, .seq #[.str "space" j80, .str "page" j81, .str "index" j82, .str "value" j83, .str "value" j84] m8, #[]⟩)
    : ∃ fd : FuncData, (∀ (s : Shared) (v : Value), BindsTo s fd ⟨[v], []⟩ [("script", v)]) ∧ ∀ base : Heap, K.In base → base.Ns mainGlobals mg → FnOk l.prog w K mg base CX0 14 fa fd ["script"] (spLaw K) := by
  have e := hfa.symm.trans (PySem.W.mg_of X G a_law)
  cases e
  have T : Txt w K mg ⟨C_Buffer, C_PageError, C_NotValid, C_Box, C_Sizes, C_Memory, f_leads_to_frame, f_Buffer_init, f_Buffer_put, f_Buffer_frame_for, f_Buffer_drop, f_Buffer_entries, f_PageError_init, f_is_whole, f_is_number_below, f_is_tuple_of, f_is_pair, f_is_letter, f_Box_init, f_Box_send, f_Box_take, f_Box_letters, f_is_between, f_is_value, f_Sizes_init, f_Sizes_acknowledge, f_Sizes_word, f_Sizes_frame_cell, f_Sizes_cells, f_first_values, f_bound_of, f_is_part, f_is_request, f_Memory_init, f_Memory_access, f_Memory_peek, f_Memory_log, f_Memory__result, f_Memory__swap, f_Memory__take, f_Memory__walk, f_Memory__reached, f_Memory__load, f_Memory__store, f_Memory__change, f__law_tape, f__law_at, f__law_put, f__law_frame, f__law_use, f__law_due, f__law_request, f__law_same, f__law_looks, fa, PySem.W.fnOf "leads_to_frame" "leads_to_frame" (defArgs s_leads_to_frame) (defBody s_leads_to_frame) (defScope s_leads_to_frame) .none kV_leads_to_frame dc_leads_to_frame pm_leads_to_frame an_leads_to_frame cd_leads_to_frame ct_leads_to_frame, PySem.W.fnOf "__init__" "Buffer.__init__" (defArgs s_Buffer_init) (defBody s_Buffer_init) (defScope s_Buffer_init) .none kV_Buffer_init dc_Buffer_init pm_Buffer_init an_Buffer_init cd_Buffer_init ct_Buffer_init, PySem.W.fnOf "put" "Buffer.put" (defArgs s_Buffer_put) (defBody s_Buffer_put) (defScope s_Buffer_put) .none kV_Buffer_put dc_Buffer_put pm_Buffer_put an_Buffer_put cd_Buffer_put ct_Buffer_put, PySem.W.fnOf "frame_for" "Buffer.frame_for" (defArgs s_Buffer_frame_for) (defBody s_Buffer_frame_for) (defScope s_Buffer_frame_for) .none kV_Buffer_frame_for dc_Buffer_frame_for pm_Buffer_frame_for an_Buffer_frame_for cd_Buffer_frame_for ct_Buffer_frame_for, PySem.W.fnOf "drop" "Buffer.drop" (defArgs s_Buffer_drop) (defBody s_Buffer_drop) (defScope s_Buffer_drop) .none kV_Buffer_drop dc_Buffer_drop pm_Buffer_drop an_Buffer_drop cd_Buffer_drop ct_Buffer_drop, PySem.W.fnOf "entries" "Buffer.entries" (defArgs s_Buffer_entries) (defBody s_Buffer_entries) (defScope s_Buffer_entries) .none kV_Buffer_entries dc_Buffer_entries pm_Buffer_entries an_Buffer_entries cd_Buffer_entries ct_Buffer_entries, PySem.W.fnOf "__init__" "PageError.__init__" (defArgs s_PageError_init) (defBody s_PageError_init) (defScope s_PageError_init) .none kV_PageError_init dc_PageError_init pm_PageError_init an_PageError_init cd_PageError_init ct_PageError_init, PySem.W.fnOf "is_whole" "is_whole" (defArgs s_is_whole) (defBody s_is_whole) (defScope s_is_whole) .none kV_is_whole dc_is_whole pm_is_whole an_is_whole cd_is_whole ct_is_whole, PySem.W.fnOf "is_number_below" "is_number_below" (defArgs s_is_number_below) (defBody s_is_number_below) (defScope s_is_number_below) .none kV_is_number_below dc_is_number_below pm_is_number_below an_is_number_below cd_is_number_below ct_is_number_below, PySem.W.fnOf "is_tuple_of" "is_tuple_of" (defArgs s_is_tuple_of) (defBody s_is_tuple_of) (defScope s_is_tuple_of) .none kV_is_tuple_of dc_is_tuple_of pm_is_tuple_of an_is_tuple_of cd_is_tuple_of ct_is_tuple_of, PySem.W.fnOf "is_pair" "is_pair" (defArgs s_is_pair) (defBody s_is_pair) (defScope s_is_pair) .none kV_is_pair dc_is_pair pm_is_pair an_is_pair cd_is_pair ct_is_pair, PySem.W.fnOf "is_letter" "is_letter" (defArgs s_is_letter) (defBody s_is_letter) (defScope s_is_letter) .none kV_is_letter dc_is_letter pm_is_letter an_is_letter cd_is_letter ct_is_letter, PySem.W.fnOf "__init__" "Box.__init__" (defArgs s_Box_init) (defBody s_Box_init) (defScope s_Box_init) .none kV_Box_init dc_Box_init pm_Box_init an_Box_init cd_Box_init ct_Box_init, PySem.W.fnOf "send" "Box.send" (defArgs s_Box_send) (defBody s_Box_send) (defScope s_Box_send) .none kV_Box_send dc_Box_send pm_Box_send an_Box_send cd_Box_send ct_Box_send, PySem.W.fnOf "take" "Box.take" (defArgs s_Box_take) (defBody s_Box_take) (defScope s_Box_take) .none kV_Box_take dc_Box_take pm_Box_take an_Box_take cd_Box_take ct_Box_take, PySem.W.fnOf "letters" "Box.letters" (defArgs s_Box_letters) (defBody s_Box_letters) (defScope s_Box_letters) .none kV_Box_letters dc_Box_letters pm_Box_letters an_Box_letters cd_Box_letters ct_Box_letters, PySem.W.fnOf "is_between" "is_between" (defArgs s_is_between) (defBody s_is_between) (defScope s_is_between) .none kV_is_between dc_is_between pm_is_between an_is_between cd_is_between ct_is_between, PySem.W.fnOf "is_value" "is_value" (defArgs s_is_value) (defBody s_is_value) (defScope s_is_value) .none kV_is_value dc_is_value pm_is_value an_is_value cd_is_value ct_is_value, PySem.W.fnOf "__init__" "Sizes.__init__" (defArgs s_Sizes_init) (defBody s_Sizes_init) (defScope s_Sizes_init) .none kV_Sizes_init dc_Sizes_init pm_Sizes_init an_Sizes_init cd_Sizes_init ct_Sizes_init, PySem.W.fnOf "acknowledge" "Sizes.acknowledge" (defArgs s_Sizes_acknowledge) (defBody s_Sizes_acknowledge) (defScope s_Sizes_acknowledge) .none kV_Sizes_acknowledge dc_Sizes_acknowledge pm_Sizes_acknowledge an_Sizes_acknowledge cd_Sizes_acknowledge ct_Sizes_acknowledge, PySem.W.fnOf "word" "Sizes.word" (defArgs s_Sizes_word) (defBody s_Sizes_word) (defScope s_Sizes_word) .none kV_Sizes_word dc_Sizes_word pm_Sizes_word an_Sizes_word cd_Sizes_word ct_Sizes_word, PySem.W.fnOf "frame_cell" "Sizes.frame_cell" (defArgs s_Sizes_frame_cell) (defBody s_Sizes_frame_cell) (defScope s_Sizes_frame_cell) .none kV_Sizes_frame_cell dc_Sizes_frame_cell pm_Sizes_frame_cell an_Sizes_frame_cell cd_Sizes_frame_cell ct_Sizes_frame_cell, PySem.W.fnOf "cells" "Sizes.cells" (defArgs s_Sizes_cells) (defBody s_Sizes_cells) (defScope s_Sizes_cells) .none kV_Sizes_cells dc_Sizes_cells pm_Sizes_cells an_Sizes_cells cd_Sizes_cells ct_Sizes_cells, PySem.W.fnOf "first_values" "first_values" (defArgs s_first_values) (defBody s_first_values) (defScope s_first_values) .none kV_first_values dc_first_values pm_first_values an_first_values cd_first_values ct_first_values, PySem.W.fnOf "bound_of" "bound_of" (defArgs s_bound_of) (defBody s_bound_of) (defScope s_bound_of) .none kV_bound_of dc_bound_of pm_bound_of an_bound_of cd_bound_of ct_bound_of, PySem.W.fnOf "is_part" "is_part" (defArgs s_is_part) (defBody s_is_part) (defScope s_is_part) .none kV_is_part dc_is_part pm_is_part an_is_part cd_is_part ct_is_part, PySem.W.fnOf "is_request" "is_request" (defArgs s_is_request) (defBody s_is_request) (defScope s_is_request) .none kV_is_request dc_is_request pm_is_request an_is_request cd_is_request ct_is_request, PySem.W.fnOf "__init__" "Memory.__init__" (defArgs s_Memory_init) (defBody s_Memory_init) (defScope s_Memory_init) .none kV_Memory_init dc_Memory_init pm_Memory_init an_Memory_init cd_Memory_init ct_Memory_init, PySem.W.fnOf "access" "Memory.access" (defArgs s_Memory_access) (defBody s_Memory_access) (defScope s_Memory_access) .none kV_Memory_access dc_Memory_access pm_Memory_access an_Memory_access cd_Memory_access ct_Memory_access, PySem.W.fnOf "peek" "Memory.peek" (defArgs s_Memory_peek) (defBody s_Memory_peek) (defScope s_Memory_peek) .none kV_Memory_peek dc_Memory_peek pm_Memory_peek an_Memory_peek cd_Memory_peek ct_Memory_peek, PySem.W.fnOf "log" "Memory.log" (defArgs s_Memory_log) (defBody s_Memory_log) (defScope s_Memory_log) .none kV_Memory_log dc_Memory_log pm_Memory_log an_Memory_log cd_Memory_log ct_Memory_log, PySem.W.fnOf "_result" "Memory._result" (defArgs s_Memory__result) (defBody s_Memory__result) (defScope s_Memory__result) .none kV_Memory__result dc_Memory__result pm_Memory__result an_Memory__result cd_Memory__result ct_Memory__result, PySem.W.fnOf "_swap" "Memory._swap" (defArgs s_Memory__swap) (defBody s_Memory__swap) (defScope s_Memory__swap) .none kV_Memory__swap dc_Memory__swap pm_Memory__swap an_Memory__swap cd_Memory__swap ct_Memory__swap, PySem.W.fnOf "_take" "Memory._take" (defArgs s_Memory__take) (defBody s_Memory__take) (defScope s_Memory__take) .none kV_Memory__take dc_Memory__take pm_Memory__take an_Memory__take cd_Memory__take ct_Memory__take, PySem.W.fnOf "_walk" "Memory._walk" (defArgs s_Memory__walk) (defBody s_Memory__walk) (defScope s_Memory__walk) .none kV_Memory__walk dc_Memory__walk pm_Memory__walk an_Memory__walk cd_Memory__walk ct_Memory__walk, PySem.W.fnOf "_reached" "Memory._reached" (defArgs s_Memory__reached) (defBody s_Memory__reached) (defScope s_Memory__reached) .none kV_Memory__reached dc_Memory__reached pm_Memory__reached an_Memory__reached cd_Memory__reached ct_Memory__reached, PySem.W.fnOf "_load" "Memory._load" (defArgs s_Memory__load) (defBody s_Memory__load) (defScope s_Memory__load) .none kV_Memory__load dc_Memory__load pm_Memory__load an_Memory__load cd_Memory__load ct_Memory__load, PySem.W.fnOf "_store" "Memory._store" (defArgs s_Memory__store) (defBody s_Memory__store) (defScope s_Memory__store) .none kV_Memory__store dc_Memory__store pm_Memory__store an_Memory__store cd_Memory__store ct_Memory__store, PySem.W.fnOf "_change" "Memory._change" (defArgs s_Memory__change) (defBody s_Memory__change) (defScope s_Memory__change) .none kV_Memory__change dc_Memory__change pm_Memory__change an_Memory__change cd_Memory__change ct_Memory__change, PySem.W.fnOf "_law_tape" "_law_tape" (defArgs s__law_tape) (defBody s__law_tape) (defScope s__law_tape) .none kV__law_tape dc__law_tape pm__law_tape an__law_tape cd__law_tape ct__law_tape, PySem.W.fnOf "_law_at" "_law_at" (defArgs s__law_at) (defBody s__law_at) (defScope s__law_at) .none kV__law_at dc__law_at pm__law_at an__law_at cd__law_at ct__law_at, PySem.W.fnOf "_law_put" "_law_put" (defArgs s__law_put) (defBody s__law_put) (defScope s__law_put) .none kV__law_put dc__law_put pm__law_put an__law_put cd__law_put ct__law_put, PySem.W.fnOf "_law_frame" "_law_frame" (defArgs s__law_frame) (defBody s__law_frame) (defScope s__law_frame) .none kV__law_frame dc__law_frame pm__law_frame an__law_frame cd__law_frame ct__law_frame, PySem.W.fnOf "_law_use" "_law_use" (defArgs s__law_use) (defBody s__law_use) (defScope s__law_use) .none kV__law_use dc__law_use pm__law_use an__law_use cd__law_use ct__law_use, PySem.W.fnOf "_law_due" "_law_due" (defArgs s__law_due) (defBody s__law_due) (defScope s__law_due) .none kV__law_due dc__law_due pm__law_due an__law_due cd__law_due ct__law_due, PySem.W.fnOf "_law_request" "_law_request" (defArgs s__law_request) (defBody s__law_request) (defScope s__law_request) .none kV__law_request dc__law_request pm__law_request an__law_request cd__law_request ct__law_request, PySem.W.fnOf "_law_same" "_law_same" (defArgs s__law_same) (defBody s__law_same) (defScope s__law_same) .none kV__law_same dc__law_same pm__law_same an__law_same cd__law_same ct__law_same, PySem.W.fnOf "_law_looks" "_law_looks" (defArgs s__law_looks) (defBody s__law_looks) (defScope s__law_looks) .none kV__law_looks dc__law_looks pm__law_looks an__law_looks cd__law_looks ct__law_looks, PySem.W.fnOf "law" "law" (defArgs s_law) (defBody s_law) (defScope s_law) .none kV_law dc_law pm_law an_law cd_law ct_law⟩ := {
    m_Buffer := PySem.W.mg_of X G g_Buffer
    m_PageError := PySem.W.mg_of X G g_PageError
    m_NotValid := PySem.W.mg_of X G g_NotValid
    m_Box := PySem.W.mg_of X G g_Box
    m_Sizes := PySem.W.mg_of X G g_Sizes
    m_Memory := PySem.W.mg_of X G g_Memory
    F_leads_to_frame := fun_mk (st := s_leads_to_frame) l_leads_to_frame c_leads_to_frame k_leads_to_frame
    B_leads_to_frame := (fun_mk (st := s_leads_to_frame) l_leads_to_frame c_leads_to_frame k_leads_to_frame).binds (ps := ["word"]) fun _ _ _ _ _ _ us hl => match us, hl with | [_], _ => rfl
    m_leads_to_frame := PySem.W.mg_of X G a_leads_to_frame
    F_Buffer_init := fun_mk (st := s_Buffer_init) l_Buffer_init c_Buffer_init k_Buffer_init
    B_Buffer_init := (fun_mk (st := s_Buffer_init) l_Buffer_init c_Buffer_init k_Buffer_init).binds (ps := ["self"]) fun _ _ _ _ _ _ us hl => match us, hl with | [_], _ => rfl
    F_Buffer_put := fun_mk (st := s_Buffer_put) l_Buffer_put c_Buffer_put k_Buffer_put
    B_Buffer_put := (fun_mk (st := s_Buffer_put) l_Buffer_put c_Buffer_put k_Buffer_put).binds (ps := ["self", "space", "page", "word"]) fun _ _ _ _ _ _ us hl => match us, hl with | [_, _, _, _], _ => rfl
    M_Buffer_put := ⟨a_Buffer_put, i_Buffer_put, k_Buffer_put⟩
    F_Buffer_frame_for := fun_mk (st := s_Buffer_frame_for) l_Buffer_frame_for c_Buffer_frame_for k_Buffer_frame_for
    B_Buffer_frame_for := (fun_mk (st := s_Buffer_frame_for) l_Buffer_frame_for c_Buffer_frame_for k_Buffer_frame_for).binds (ps := ["self", "space", "page", "writing"]) fun _ _ _ _ _ _ us hl => match us, hl with | [_, _, _, _], _ => rfl
    M_Buffer_frame_for := ⟨a_Buffer_frame_for, i_Buffer_frame_for, k_Buffer_frame_for⟩
    F_Buffer_drop := fun_mk (st := s_Buffer_drop) l_Buffer_drop c_Buffer_drop k_Buffer_drop
    B_Buffer_drop := (fun_mk (st := s_Buffer_drop) l_Buffer_drop c_Buffer_drop k_Buffer_drop).binds (ps := ["self", "pairs"]) fun _ _ _ _ _ _ us hl => match us, hl with | [_, _], _ => rfl
    M_Buffer_drop := ⟨a_Buffer_drop, i_Buffer_drop, k_Buffer_drop⟩
    F_Buffer_entries := fun_mk (st := s_Buffer_entries) l_Buffer_entries c_Buffer_entries k_Buffer_entries
    B_Buffer_entries := (fun_mk (st := s_Buffer_entries) l_Buffer_entries c_Buffer_entries k_Buffer_entries).binds (ps := ["self"]) fun _ _ _ _ _ _ us hl => match us, hl with | [_], _ => rfl
    M_Buffer_entries := ⟨a_Buffer_entries, i_Buffer_entries, k_Buffer_entries⟩
    F_PageError_init := fun_mk (st := s_PageError_init) l_PageError_init c_PageError_init k_PageError_init
    B_PageError_init := (fun_mk (st := s_PageError_init) l_PageError_init c_PageError_init k_PageError_init).binds (ps := ["self"]) fun _ _ _ _ _ _ us hl => match us, hl with | [_], _ => rfl
    F_is_whole := fun_mk (st := s_is_whole) l_is_whole c_is_whole k_is_whole
    B_is_whole := (fun_mk (st := s_is_whole) l_is_whole c_is_whole k_is_whole).binds (ps := ["value"]) fun _ _ _ _ _ _ us hl => match us, hl with | [_], _ => rfl
    m_is_whole := PySem.W.mg_of X G a_is_whole
    F_is_number_below := fun_mk (st := s_is_number_below) l_is_number_below c_is_number_below k_is_number_below
    B_is_number_below := (fun_mk (st := s_is_number_below) l_is_number_below c_is_number_below k_is_number_below).binds (ps := ["value", "many"]) fun _ _ _ _ _ _ us hl => match us, hl with | [_, _], _ => rfl
    m_is_number_below := PySem.W.mg_of X G a_is_number_below
    F_is_tuple_of := fun_mk (st := s_is_tuple_of) l_is_tuple_of c_is_tuple_of k_is_tuple_of
    B_is_tuple_of := (fun_mk (st := s_is_tuple_of) l_is_tuple_of c_is_tuple_of k_is_tuple_of).binds (ps := ["value", "many"]) fun _ _ _ _ _ _ us hl => match us, hl with | [_, _], _ => rfl
    m_is_tuple_of := PySem.W.mg_of X G a_is_tuple_of
    F_is_pair := fun_mk (st := s_is_pair) l_is_pair c_is_pair k_is_pair
    B_is_pair := (fun_mk (st := s_is_pair) l_is_pair c_is_pair k_is_pair).binds (ps := ["value"]) fun _ _ _ _ _ _ us hl => match us, hl with | [_], _ => rfl
    m_is_pair := PySem.W.mg_of X G a_is_pair
    F_is_letter := fun_mk (st := s_is_letter) l_is_letter c_is_letter k_is_letter
    B_is_letter := (fun_mk (st := s_is_letter) l_is_letter c_is_letter k_is_letter).binds (ps := ["value"]) fun _ _ _ _ _ _ us hl => match us, hl with | [_], _ => rfl
    m_is_letter := PySem.W.mg_of X G a_is_letter
    F_Box_init := fun_mk (st := s_Box_init) l_Box_init c_Box_init k_Box_init
    B_Box_init := (fun_mk (st := s_Box_init) l_Box_init c_Box_init k_Box_init).binds (ps := ["self"]) fun _ _ _ _ _ _ us hl => match us, hl with | [_], _ => rfl
    F_Box_send := fun_mk (st := s_Box_send) l_Box_send c_Box_send k_Box_send
    B_Box_send := (fun_mk (st := s_Box_send) l_Box_send c_Box_send k_Box_send).binds (ps := ["self", "letter"]) fun _ _ _ _ _ _ us hl => match us, hl with | [_, _], _ => rfl
    M_Box_send := ⟨a_Box_send, i_Box_send, k_Box_send⟩
    F_Box_take := fun_mk (st := s_Box_take) l_Box_take c_Box_take k_Box_take
    B_Box_take := (fun_mk (st := s_Box_take) l_Box_take c_Box_take k_Box_take).binds (ps := ["self"]) fun _ _ _ _ _ _ us hl => match us, hl with | [_], _ => rfl
    M_Box_take := ⟨a_Box_take, i_Box_take, k_Box_take⟩
    F_Box_letters := fun_mk (st := s_Box_letters) l_Box_letters c_Box_letters k_Box_letters
    B_Box_letters := (fun_mk (st := s_Box_letters) l_Box_letters c_Box_letters k_Box_letters).binds (ps := ["self"]) fun _ _ _ _ _ _ us hl => match us, hl with | [_], _ => rfl
    M_Box_letters := ⟨a_Box_letters, i_Box_letters, k_Box_letters⟩
    F_is_between := fun_mk (st := s_is_between) l_is_between c_is_between k_is_between
    B_is_between := (fun_mk (st := s_is_between) l_is_between c_is_between k_is_between).binds (ps := ["value", "least", "most"]) fun _ _ _ _ _ _ us hl => match us, hl with | [_, _, _], _ => rfl
    m_is_between := PySem.W.mg_of X G a_is_between
    F_is_value := fun_mk (st := s_is_value) l_is_value c_is_value k_is_value
    B_is_value := (fun_mk (st := s_is_value) l_is_value c_is_value k_is_value).binds (ps := ["value"]) fun _ _ _ _ _ _ us hl => match us, hl with | [_], _ => rfl
    m_is_value := PySem.W.mg_of X G a_is_value
    F_Sizes_init := fun_mk (st := s_Sizes_init) l_Sizes_init c_Sizes_init k_Sizes_init
    B_Sizes_init := (fun_mk (st := s_Sizes_init) l_Sizes_init c_Sizes_init k_Sizes_init).binds (ps := ["self", "processors", "frames", "blocks"]) fun _ _ _ _ _ _ us hl => match us, hl with | [_, _, _, _], _ => rfl
    F_Sizes_acknowledge := fun_mk (st := s_Sizes_acknowledge) l_Sizes_acknowledge c_Sizes_acknowledge k_Sizes_acknowledge
    B_Sizes_acknowledge := (fun_mk (st := s_Sizes_acknowledge) l_Sizes_acknowledge c_Sizes_acknowledge k_Sizes_acknowledge).binds (ps := ["self", "processor"]) fun _ _ _ _ _ _ us hl => match us, hl with | [_, _], _ => rfl
    M_Sizes_acknowledge := ⟨a_Sizes_acknowledge, i_Sizes_acknowledge, k_Sizes_acknowledge⟩
    F_Sizes_word := fun_mk (st := s_Sizes_word) l_Sizes_word c_Sizes_word k_Sizes_word
    B_Sizes_word := (fun_mk (st := s_Sizes_word) l_Sizes_word c_Sizes_word k_Sizes_word).binds (ps := ["self", "space", "page"]) fun _ _ _ _ _ _ us hl => match us, hl with | [_, _, _], _ => rfl
    M_Sizes_word := ⟨a_Sizes_word, i_Sizes_word, k_Sizes_word⟩
    F_Sizes_frame_cell := fun_mk (st := s_Sizes_frame_cell) l_Sizes_frame_cell c_Sizes_frame_cell k_Sizes_frame_cell
    B_Sizes_frame_cell := (fun_mk (st := s_Sizes_frame_cell) l_Sizes_frame_cell c_Sizes_frame_cell k_Sizes_frame_cell).binds (ps := ["self", "frame", "index"]) fun _ _ _ _ _ _ us hl => match us, hl with | [_, _, _], _ => rfl
    M_Sizes_frame_cell := ⟨a_Sizes_frame_cell, i_Sizes_frame_cell, k_Sizes_frame_cell⟩
    F_Sizes_cells := fun_mk (st := s_Sizes_cells) l_Sizes_cells c_Sizes_cells k_Sizes_cells
    B_Sizes_cells := (fun_mk (st := s_Sizes_cells) l_Sizes_cells c_Sizes_cells k_Sizes_cells).binds (ps := ["self"]) fun _ _ _ _ _ _ us hl => match us, hl with | [_], _ => rfl
    M_Sizes_cells := ⟨a_Sizes_cells, i_Sizes_cells, k_Sizes_cells⟩
    F_first_values := fun_mk (st := s_first_values) l_first_values c_first_values k_first_values
    B_first_values := (fun_mk (st := s_first_values) l_first_values c_first_values k_first_values).binds (ps := ["sizes"]) fun _ _ _ _ _ _ us hl => match us, hl with | [_], _ => rfl
    m_first_values := PySem.W.mg_of X G a_first_values
    F_bound_of := fun_mk (st := s_bound_of) l_bound_of c_bound_of k_bound_of
    B_bound_of := (fun_mk (st := s_bound_of) l_bound_of c_bound_of k_bound_of).binds (ps := ["kind", "sizes"]) fun _ _ _ _ _ _ us hl => match us, hl with | [_, _], _ => rfl
    m_bound_of := PySem.W.mg_of X G a_bound_of
    F_is_part := fun_mk (st := s_is_part) l_is_part c_is_part k_is_part
    B_is_part := (fun_mk (st := s_is_part) l_is_part c_is_part k_is_part).binds (ps := ["part", "kind", "sizes"]) fun _ _ _ _ _ _ us hl => match us, hl with | [_, _, _], _ => rfl
    m_is_part := PySem.W.mg_of X G a_is_part
    F_is_request := fun_mk (st := s_is_request) l_is_request c_is_request k_is_request
    B_is_request := (fun_mk (st := s_is_request) l_is_request c_is_request k_is_request).binds (ps := ["value", "sizes"]) fun _ _ _ _ _ _ us hl => match us, hl with | [_, _], _ => rfl
    m_is_request := PySem.W.mg_of X G a_is_request
    F_Memory_init := fun_mk (st := s_Memory_init) l_Memory_init c_Memory_init k_Memory_init
    B_Memory_init := (fun_mk (st := s_Memory_init) l_Memory_init c_Memory_init k_Memory_init).binds (ps := ["self", "sizes"]) fun _ _ _ _ _ _ us hl => match us, hl with | [_, _], _ => rfl
    F_Memory_access := fun_mk (st := s_Memory_access) l_Memory_access c_Memory_access k_Memory_access
    B_Memory_access := (fun_mk (st := s_Memory_access) l_Memory_access c_Memory_access k_Memory_access).binds (ps := ["self", "processor", "request"]) fun _ _ _ _ _ _ us hl => match us, hl with | [_, _, _], _ => rfl
    M_Memory_access := ⟨a_Memory_access, i_Memory_access, k_Memory_access⟩
    F_Memory_peek := fun_mk (st := s_Memory_peek) l_Memory_peek c_Memory_peek k_Memory_peek
    B_Memory_peek := (fun_mk (st := s_Memory_peek) l_Memory_peek c_Memory_peek k_Memory_peek).binds (ps := ["self", "cell"]) fun _ _ _ _ _ _ us hl => match us, hl with | [_, _], _ => rfl
    M_Memory_peek := ⟨a_Memory_peek, i_Memory_peek, k_Memory_peek⟩
    F_Memory_log := fun_mk (st := s_Memory_log) l_Memory_log c_Memory_log k_Memory_log
    B_Memory_log := (fun_mk (st := s_Memory_log) l_Memory_log c_Memory_log k_Memory_log).binds (ps := ["self"]) fun _ _ _ _ _ _ us hl => match us, hl with | [_], _ => rfl
    M_Memory_log := ⟨a_Memory_log, i_Memory_log, k_Memory_log⟩
    F_Memory__result := fun_mk (st := s_Memory__result) l_Memory__result c_Memory__result k_Memory__result
    B_Memory__result := (fun_mk (st := s_Memory__result) l_Memory__result c_Memory__result k_Memory__result).binds (ps := ["self", "processor", "request"]) fun _ _ _ _ _ _ us hl => match us, hl with | [_, _, _], _ => rfl
    M_Memory__result := ⟨a_Memory__result, i_Memory__result, k_Memory__result⟩
    F_Memory__swap := fun_mk (st := s_Memory__swap) l_Memory__swap c_Memory__swap k_Memory__swap
    B_Memory__swap := (fun_mk (st := s_Memory__swap) l_Memory__swap c_Memory__swap k_Memory__swap).binds (ps := ["self", "cell", "old", "new"]) fun _ _ _ _ _ _ us hl => match us, hl with | [_, _, _, _], _ => rfl
    M_Memory__swap := ⟨a_Memory__swap, i_Memory__swap, k_Memory__swap⟩
    F_Memory__take := fun_mk (st := s_Memory__take) l_Memory__take c_Memory__take k_Memory__take
    B_Memory__take := (fun_mk (st := s_Memory__take) l_Memory__take c_Memory__take k_Memory__take).binds (ps := ["self", "processor"]) fun _ _ _ _ _ _ us hl => match us, hl with | [_, _], _ => rfl
    M_Memory__take := ⟨a_Memory__take, i_Memory__take, k_Memory__take⟩
    F_Memory__walk := fun_mk (st := s_Memory__walk) l_Memory__walk c_Memory__walk k_Memory__walk
    B_Memory__walk := (fun_mk (st := s_Memory__walk) l_Memory__walk c_Memory__walk k_Memory__walk).binds (ps := ["self", "processor", "space", "page"]) fun _ _ _ _ _ _ us hl => match us, hl with | [_, _, _, _], _ => rfl
    M_Memory__walk := ⟨a_Memory__walk, i_Memory__walk, k_Memory__walk⟩
    F_Memory__reached := fun_mk (st := s_Memory__reached) l_Memory__reached c_Memory__reached k_Memory__reached
    B_Memory__reached := (fun_mk (st := s_Memory__reached) l_Memory__reached c_Memory__reached k_Memory__reached).binds (ps := ["self", "processor", "space", "page", "index", "writing"]) fun _ _ _ _ _ _ us hl => match us, hl with | [_, _, _, _, _, _], _ => rfl
    M_Memory__reached := ⟨a_Memory__reached, i_Memory__reached, k_Memory__reached⟩
    F_Memory__load := fun_mk (st := s_Memory__load) l_Memory__load c_Memory__load k_Memory__load
    B_Memory__load := (fun_mk (st := s_Memory__load) l_Memory__load c_Memory__load k_Memory__load).binds (ps := ["self", "cell"]) fun _ _ _ _ _ _ us hl => match us, hl with | [_, _], _ => rfl
    M_Memory__load := ⟨a_Memory__load, i_Memory__load, k_Memory__load⟩
    F_Memory__store := fun_mk (st := s_Memory__store) l_Memory__store c_Memory__store k_Memory__store
    B_Memory__store := (fun_mk (st := s_Memory__store) l_Memory__store c_Memory__store k_Memory__store).binds (ps := ["self", "cell", "value"]) fun _ _ _ _ _ _ us hl => match us, hl with | [_, _, _], _ => rfl
    M_Memory__store := ⟨a_Memory__store, i_Memory__store, k_Memory__store⟩
    F_Memory__change := fun_mk (st := s_Memory__change) l_Memory__change c_Memory__change k_Memory__change
    B_Memory__change := (fun_mk (st := s_Memory__change) l_Memory__change c_Memory__change k_Memory__change).binds (ps := ["self", "cell", "old", "new"]) fun _ _ _ _ _ _ us hl => match us, hl with | [_, _, _, _], _ => rfl
    M_Memory__change := ⟨a_Memory__change, i_Memory__change, k_Memory__change⟩
    F__law_tape := fun_mk (st := s__law_tape) l__law_tape c__law_tape k__law_tape
    B__law_tape := (fun_mk (st := s__law_tape) l__law_tape c__law_tape k__law_tape).binds (ps := ["script"]) fun _ _ _ _ _ _ us hl => match us, hl with | [_], _ => rfl
    m__law_tape := PySem.W.mg_of X G a__law_tape
    F__law_at := fun_mk (st := s__law_at) l__law_at c__law_at k__law_at
    B__law_at := (fun_mk (st := s__law_at) l__law_at c__law_at k__law_at).binds (ps := ["tape", "k"]) fun _ _ _ _ _ _ us hl => match us, hl with | [_, _], _ => rfl
    m__law_at := PySem.W.mg_of X G a__law_at
    F__law_put := fun_mk (st := s__law_put) l__law_put c__law_put k__law_put
    B__law_put := (fun_mk (st := s__law_put) l__law_put c__law_put k__law_put).binds (ps := ["rows", "space", "page", "word"]) fun _ _ _ _ _ _ us hl => match us, hl with | [_, _, _, _], _ => rfl
    m__law_put := PySem.W.mg_of X G a__law_put
    F__law_frame := fun_mk (st := s__law_frame) l__law_frame c__law_frame k__law_frame
    B__law_frame := (fun_mk (st := s__law_frame) l__law_frame c__law_frame k__law_frame).binds (ps := ["rows", "space", "page", "writing"]) fun _ _ _ _ _ _ us hl => match us, hl with | [_, _, _, _], _ => rfl
    m__law_frame := PySem.W.mg_of X G a__law_frame
    F__law_use := fun_mk (st := s__law_use) l__law_use c__law_use k__law_use
    B__law_use := (fun_mk (st := s__law_use) l__law_use c__law_use k__law_use).binds (ps := ["w", "p", "request"]) fun _ _ _ _ _ _ us hl => match us, hl with | [_, _, _], _ => rfl
    m__law_use := PySem.W.mg_of X G a__law_use
    F__law_due := fun_mk (st := s__law_due) l__law_due c__law_due k__law_due
    B__law_due := (fun_mk (st := s__law_due) l__law_due c__law_due k__law_due).binds (ps := ["w", "p", "request"]) fun _ _ _ _ _ _ us hl => match us, hl with | [_, _, _], _ => rfl
    m__law_due := PySem.W.mg_of X G a__law_due
    F__law_request := fun_mk (st := s__law_request) l__law_request c__law_request k__law_request
    B__law_request := (fun_mk (st := s__law_request) l__law_request c__law_request k__law_request).binds (ps := ["w", "number", "pick", "other"]) fun _ _ _ _ _ _ us hl => match us, hl with | [_, _, _, _], _ => rfl
    m__law_request := PySem.W.mg_of X G a__law_request
    F__law_same := fun_mk (st := s__law_same) l__law_same c__law_same k__law_same
    B__law_same := (fun_mk (st := s__law_same) l__law_same c__law_same k__law_same).binds (ps := ["told", "due"]) fun _ _ _ _ _ _ us hl => match us, hl with | [_, _], _ => rfl
    m__law_same := PySem.W.mg_of X G a__law_same
    F__law_looks := fun_mk (st := s__law_looks) l__law_looks c__law_looks k__law_looks
    B__law_looks := (fun_mk (st := s__law_looks) l__law_looks c__law_looks k__law_looks).binds (ps := ["memory", "w"]) fun _ _ _ _ _ _ us hl => match us, hl with | [_, _], _ => rfl
    m__law_looks := PySem.W.mg_of X G a__law_looks
    F_law := fun_mk (st := s_law) l_law c_law k_law
    B_law := (fun_mk (st := s_law) l_law c_law k_law).binds (ps := ["script"]) fun _ _ _ _ _ _ us hl => match us, hl with | [_], _ => rfl
    m_law := PySem.W.mg_of X G a_law
    c_Buffer := ⟨pg_Buffer, hd_Buffer, po_Buffer, sa_Buffer⟩
    mk_Buffer := ⟨mk_Buffer, a_Buffer_init, i_Buffer_init, kc_Buffer⟩
    n_Buffer__entries := n_Buffer__entries
    c_Box := ⟨pg_Box, hd_Box, po_Box, sa_Box⟩
    mk_Box := ⟨mk_Box, a_Box_init, i_Box_init, kc_Box⟩
    n_Box__letters := n_Box__letters
    c_Sizes := ⟨pg_Sizes, hd_Sizes, po_Sizes, sa_Sizes⟩
    mk_Sizes := ⟨mk_Sizes, a_Sizes_init, i_Sizes_init, kc_Sizes⟩
    n_Sizes_processors := n_Sizes_processors
    n_Sizes_frames := n_Sizes_frames
    n_Sizes_blocks := n_Sizes_blocks
    n_Sizes__acknowledges := n_Sizes__acknowledges
    n_Sizes__words := n_Sizes__words
    n_Sizes__frame_cells := n_Sizes__frame_cells
    n_Sizes__swap_blocks := n_Sizes__swap_blocks
    n_Sizes__file_blocks := n_Sizes__file_blocks
    c_Memory := ⟨pg_Memory, hd_Memory, po_Memory, sa_Memory⟩
    mk_Memory := ⟨mk_Memory, a_Memory_init, i_Memory_init, kc_Memory⟩
    n_Memory_sizes := n_Memory_sizes
    n_Memory_count := n_Memory_count
    n_Memory_buffers := n_Memory_buffers
    n_Memory_boxes := n_Memory_boxes
    n_Memory__cells := n_Memory__cells
    n_Memory__log := n_Memory__log
    k_CELLS := ⟨_, PySem.W.mg_of X G z_CELLS, t_CELLS, rfl⟩
    k_FILES := ⟨_, PySem.W.mg_of X G z_FILES, t_FILES, rfl⟩
    k_FILE_PAGES := ⟨_, PySem.W.mg_of X G z_FILE_PAGES, t_FILE_PAGES, rfl⟩
    k_MOST_ENTRIES := ⟨_, PySem.W.mg_of X G z_MOST_ENTRIES, t_MOST_ENTRIES, rfl⟩
    k_PAGES := ⟨_, PySem.W.mg_of X G z_PAGES, t_PAGES, rfl⟩
    k_SPACES := ⟨_, PySem.W.mg_of X G z_SPACES, t_SPACES, rfl⟩
    b_ValueError := PySem.W.mg_none_of X G z_ValueError
    b_abs := PySem.W.mg_none_of X G z_abs
    b_all := PySem.W.mg_none_of X G z_all
    b_bool := PySem.W.mg_none_of X G z_bool
    b_dict := PySem.W.mg_none_of X G z_dict
    b_int := PySem.W.mg_none_of X G z_int
    b_isinstance := PySem.W.mg_none_of X G z_isinstance
    b_len := PySem.W.mg_none_of X G z_len
    b_list := PySem.W.mg_none_of X G z_list
    b_max := PySem.W.mg_none_of X G z_max
    b_min := PySem.W.mg_none_of X G z_min
    b_range := PySem.W.mg_none_of X G z_range
    b_str := PySem.W.mg_none_of X G z_str
    b_tuple := PySem.W.mg_none_of X G z_tuple
    b_zip := PySem.W.mg_none_of X G z_zip
    vV := y_vV
    xi_NotValid := y_xi_NotValid
    xt_NotValid := y_xt_NotValid
    xs_NotValid := y_xs_NotValid
    xb_NotValid := y_xb_NotValid
    xy_NotValid := y_xy_NotValid
    xk_NotValid := y_xk_NotValid
    e1 := y_e1
    e2 := y_e2
    e4 := y_e4
    e5 := y_e5
    e6 := y_e6
    e7 := y_e7
    e8 := y_e8
    p1 := y_p1
    p2 := y_p2
    p3 := y_p3
    p4 := y_p4
    q4 := y_q4
    x_NotValid := ⟨⟨nmX, qX, NX, bsX, _, snX, subX, abX, colX, ddX, x0, x1, x2, x3, x5, y_xL, rfl⟩, y_xs_NotValid, y_xb_NotValid, y_xy_NotValid, y_xk_NotValid⟩
    e_NotValid := ⟨y_e1, y_e2, y_xb_NotValid, y_e4, y_e5, y_e6, y_e7, y_e8⟩
    pt := Pk.parts_mk (PySem.W.mg_of X G y_gP) y_sP y_lP y_t0 y_t1 y_t2 y_t3 y_t4 y_t5 y_t6 y_t7 y_t8
  }
  exact ⟨_, fun s v => .of_eq rfl, fun base _ _ => (ok_law (base := base) (P := l.prog) (w := w) T).mono (by decide)⟩
theorem walk {l : PySem.W.OpenLaw} {q : Program} {loose : List Str} {XP : (Str → Option Value) → Heap → Prop} {YP : World → Heap → Prop} {d : DefRec} {K : Params → PySem.W.Frag} (hn : l.most = some 63) (hdf : d.params.defaults = [])
    (hY : ∀ (w : World) (h : Heap), YP w h → (K w.params).In h)
    (F : ∀ (w : World) (mg : Str → Option Value) (fa : Addr) (h : Heap), (K w.params).In h → h.Ns mainGlobals mg → mg d.name = some (.ref fa) →
      ∃ fd : FuncData, (∀ (s : Shared) (u : Value), BindsTo s fd ⟨[u], []⟩ [("script", u)]) ∧ ∀ base : Heap, (K w.params).In base → base.Ns mainGlobals mg → FnOk l.prog w (K w.params) mg base CX0 14 fa fd ["script"] (spLaw (K w.params))) :
    PySem.W.WalkO q loose XP YP l.row.toRowW d [] (fun f vs => PySem.call f vs) :=
  L2.walk_of (n := 63) (k := 14) (x := "script") (CX := fun _ => CX0) (sp := fun w => spLaw (K w.params)) hn (by decide) hdf ⟨rfl, by decide, by decide⟩ hY F (fun _ _ a ns hl _ hS => ⟨a, ns, rfl, hS, hl, fun _ => rfl⟩) fun _ _ _ _ _ z => z
end K04

open PySem PySem.W PyProof.Rows in
set_option maxRecDepth 100000 in
set_option maxHeartbeats 0 in
theorem PySem.Challenge.cw_frametally_k04_whole_translations_holds : PySem.Challenge.rw_frametally_k04_whole_translations.Holds := by
  w_on; o_law; k_head; (case hw => w_witness2)
  k_fill
  refine K04.walk (l := PySem.Challenge.rw_frametally_k04_whole_translations) rfl rfl (fun w h Y => PySem.W.kIn_of Y) ?F
  case F =>
    intro w mg fa h KX G hmg
    refine' K04.all_mk KX G hmg ?g_Buffer ?g_PageError ?g_NotValid ?g_Box ?g_Sizes ?g_Memory ?a_leads_to_frame ?l_leads_to_frame ?c_leads_to_frame ?k_leads_to_frame ?a_Buffer_init ?i_Buffer_init ?l_Buffer_init ?c_Buffer_init ?k_Buffer_init ?a_Buffer_put ?i_Buffer_put ?l_Buffer_put ?c_Buffer_put ?k_Buffer_put ?a_Buffer_frame_for ?i_Buffer_frame_for ?l_Buffer_frame_for ?c_Buffer_frame_for ?k_Buffer_frame_for ?a_Buffer_drop ?i_Buffer_drop ?l_Buffer_drop ?c_Buffer_drop ?k_Buffer_drop ?a_Buffer_entries ?i_Buffer_entries ?l_Buffer_entries ?c_Buffer_entries ?k_Buffer_entries ?a_PageError_init ?i_PageError_init ?l_PageError_init ?c_PageError_init ?k_PageError_init ?a_is_whole ?l_is_whole ?c_is_whole ?k_is_whole ?a_is_number_below ?l_is_number_below ?c_is_number_below ?k_is_number_below ?a_is_tuple_of ?l_is_tuple_of ?c_is_tuple_of ?k_is_tuple_of ?a_is_pair ?l_is_pair ?c_is_pair ?k_is_pair ?a_is_letter ?l_is_letter ?c_is_letter ?k_is_letter ?a_Box_init ?i_Box_init ?l_Box_init ?c_Box_init ?k_Box_init ?a_Box_send ?i_Box_send ?l_Box_send ?c_Box_send ?k_Box_send ?a_Box_take ?i_Box_take ?l_Box_take ?c_Box_take ?k_Box_take ?a_Box_letters ?i_Box_letters ?l_Box_letters ?c_Box_letters ?k_Box_letters ?a_is_between ?l_is_between ?c_is_between ?k_is_between ?a_is_value ?l_is_value ?c_is_value ?k_is_value ?a_Sizes_init ?i_Sizes_init ?l_Sizes_init ?c_Sizes_init ?k_Sizes_init ?a_Sizes_acknowledge ?i_Sizes_acknowledge ?l_Sizes_acknowledge ?c_Sizes_acknowledge ?k_Sizes_acknowledge ?a_Sizes_word ?i_Sizes_word ?l_Sizes_word ?c_Sizes_word ?k_Sizes_word ?a_Sizes_frame_cell ?i_Sizes_frame_cell ?l_Sizes_frame_cell ?c_Sizes_frame_cell ?k_Sizes_frame_cell ?a_Sizes_cells ?i_Sizes_cells ?l_Sizes_cells ?c_Sizes_cells ?k_Sizes_cells ?a_first_values ?l_first_values ?c_first_values ?k_first_values ?a_bound_of ?l_bound_of ?c_bound_of ?k_bound_of ?a_is_part ?l_is_part ?c_is_part ?k_is_part ?a_is_request ?l_is_request ?c_is_request ?k_is_request ?a_Memory_init ?i_Memory_init ?l_Memory_init ?c_Memory_init ?k_Memory_init ?a_Memory_access ?i_Memory_access ?l_Memory_access ?c_Memory_access ?k_Memory_access ?a_Memory_peek ?i_Memory_peek ?l_Memory_peek ?c_Memory_peek ?k_Memory_peek ?a_Memory_log ?i_Memory_log ?l_Memory_log ?c_Memory_log ?k_Memory_log ?a_Memory__result ?i_Memory__result ?l_Memory__result ?c_Memory__result ?k_Memory__result ?a_Memory__swap ?i_Memory__swap ?l_Memory__swap ?c_Memory__swap ?k_Memory__swap ?a_Memory__take ?i_Memory__take ?l_Memory__take ?c_Memory__take ?k_Memory__take ?a_Memory__walk ?i_Memory__walk ?l_Memory__walk ?c_Memory__walk ?k_Memory__walk ?a_Memory__reached ?i_Memory__reached ?l_Memory__reached ?c_Memory__reached ?k_Memory__reached ?a_Memory__load ?i_Memory__load ?l_Memory__load ?c_Memory__load ?k_Memory__load ?a_Memory__store ?i_Memory__store ?l_Memory__store ?c_Memory__store ?k_Memory__store ?a_Memory__change ?i_Memory__change ?l_Memory__change ?c_Memory__change ?k_Memory__change ?a__law_tape ?l__law_tape ?c__law_tape ?k__law_tape ?a__law_at ?l__law_at ?c__law_at ?k__law_at ?a__law_put ?l__law_put ?c__law_put ?k__law_put ?a__law_frame ?l__law_frame ?c__law_frame ?k__law_frame ?a__law_use ?l__law_use ?c__law_use ?k__law_use ?a__law_due ?l__law_due ?c__law_due ?k__law_due ?a__law_request ?l__law_request ?c__law_request ?k__law_request ?a__law_same ?l__law_same ?c__law_same ?k__law_same ?a__law_looks ?l__law_looks ?c__law_looks ?k__law_looks ?a_law ?l_law ?c_law ?k_law ?pg_Buffer ?hd_Buffer ?po_Buffer ?sa_Buffer ?mk_Buffer ?kc_Buffer ?n_Buffer__entries ?pg_Box ?hd_Box ?po_Box ?sa_Box ?mk_Box ?kc_Box ?n_Box__letters ?pg_Sizes ?hd_Sizes ?po_Sizes ?sa_Sizes ?mk_Sizes ?kc_Sizes ?n_Sizes_processors ?n_Sizes_frames ?n_Sizes_blocks ?n_Sizes__acknowledges ?n_Sizes__words ?n_Sizes__frame_cells ?n_Sizes__swap_blocks ?n_Sizes__file_blocks ?pg_Memory ?hd_Memory ?po_Memory ?sa_Memory ?mk_Memory ?kc_Memory ?n_Memory_sizes ?n_Memory_count ?n_Memory_buffers ?n_Memory_boxes ?n_Memory__cells ?n_Memory__log ?z_CELLS ?z_FILES ?z_FILE_PAGES ?z_MOST_ENTRIES ?z_PAGES ?z_SPACES ?z_ValueError ?z_abs ?z_all ?z_bool ?z_dict ?z_int ?z_isinstance ?z_len ?z_list ?z_max ?z_min ?z_range ?z_str ?z_tuple ?z_zip ?y_xL ?y_vV ?y_xi_NotValid ?y_xt_NotValid ?y_xs_NotValid ?y_xb_NotValid ?y_xy_NotValid ?y_xk_NotValid ?y_e1 ?y_e2 ?y_e4 ?y_e5 ?y_e6 ?y_e7 ?y_e8 ?y_p1 ?y_p2 ?y_p3 ?y_p4 ?y_q4 ?y_gP ?y_sP ?y_lP ?y_t0 ?y_t1 ?y_t2 ?y_t3 ?y_t4 ?y_t5 ?y_t6 ?y_t7 ?y_t8
    (case g_Buffer => k_is)
    (case g_PageError => k_is)
    (case g_NotValid => k_is)
    (case g_Box => k_is)
    (case g_Sizes => k_is)
    (case g_Memory => k_is)
    (case a_leads_to_frame => k_is)
    (case l_leads_to_frame => k_is)
    (case c_leads_to_frame => k_is)
    (case k_leads_to_frame => k_is)
    (case a_Buffer_init => k_is)
    (case i_Buffer_init => k_is)
    (case l_Buffer_init => k_is)
    (case c_Buffer_init => k_is)
    (case k_Buffer_init => k_is)
    (case a_Buffer_put => k_is)
    (case i_Buffer_put => k_is)
    (case l_Buffer_put => k_is)
    (case c_Buffer_put => k_is)
    (case k_Buffer_put => k_is)
    (case a_Buffer_frame_for => k_is)
    (case i_Buffer_frame_for => k_is)
    (case l_Buffer_frame_for => k_is)
    (case c_Buffer_frame_for => k_is)
    (case k_Buffer_frame_for => k_is)
    (case a_Buffer_drop => k_is)
    (case i_Buffer_drop => k_is)
    (case l_Buffer_drop => k_is)
    (case c_Buffer_drop => k_is)
    (case k_Buffer_drop => k_is)
    (case a_Buffer_entries => k_is)
    (case i_Buffer_entries => k_is)
    (case l_Buffer_entries => k_is)
    (case c_Buffer_entries => k_is)
    (case k_Buffer_entries => k_is)
    (case a_PageError_init => k_is)
    (case i_PageError_init => k_is)
    (case l_PageError_init => k_is)
    (case c_PageError_init => k_is)
    (case k_PageError_init => k_is)
    (case a_is_whole => k_is)
    (case l_is_whole => k_is)
    (case c_is_whole => k_is)
    (case k_is_whole => k_is)
    (case a_is_number_below => k_is)
    (case l_is_number_below => k_is)
    (case c_is_number_below => k_is)
    (case k_is_number_below => k_is)
    (case a_is_tuple_of => k_is)
    (case l_is_tuple_of => k_is)
    (case c_is_tuple_of => k_is)
    (case k_is_tuple_of => k_is)
    (case a_is_pair => k_is)
    (case l_is_pair => k_is)
    (case c_is_pair => k_is)
    (case k_is_pair => k_is)
    (case a_is_letter => k_is)
    (case l_is_letter => k_is)
    (case c_is_letter => k_is)
    (case k_is_letter => k_is)
    (case a_Box_init => k_is)
    (case i_Box_init => k_is)
    (case l_Box_init => k_is)
    (case c_Box_init => k_is)
    (case k_Box_init => k_is)
    (case a_Box_send => k_is)
    (case i_Box_send => k_is)
    (case l_Box_send => k_is)
    (case c_Box_send => k_is)
    (case k_Box_send => k_is)
    (case a_Box_take => k_is)
    (case i_Box_take => k_is)
    (case l_Box_take => k_is)
    (case c_Box_take => k_is)
    (case k_Box_take => k_is)
    (case a_Box_letters => k_is)
    (case i_Box_letters => k_is)
    (case l_Box_letters => k_is)
    (case c_Box_letters => k_is)
    (case k_Box_letters => k_is)
    (case a_is_between => k_is)
    (case l_is_between => k_is)
    (case c_is_between => k_is)
    (case k_is_between => k_is)
    (case a_is_value => k_is)
    (case l_is_value => k_is)
    (case c_is_value => k_is)
    (case k_is_value => k_is)
    (case a_Sizes_init => k_is)
    (case i_Sizes_init => k_is)
    (case l_Sizes_init => k_is)
    (case c_Sizes_init => k_is)
    (case k_Sizes_init => k_is)
    (case a_Sizes_acknowledge => k_is)
    (case i_Sizes_acknowledge => k_is)
    (case l_Sizes_acknowledge => k_is)
    (case c_Sizes_acknowledge => k_is)
    (case k_Sizes_acknowledge => k_is)
    (case a_Sizes_word => k_is)
    (case i_Sizes_word => k_is)
    (case l_Sizes_word => k_is)
    (case c_Sizes_word => k_is)
    (case k_Sizes_word => k_is)
    (case a_Sizes_frame_cell => k_is)
    (case i_Sizes_frame_cell => k_is)
    (case l_Sizes_frame_cell => k_is)
    (case c_Sizes_frame_cell => k_is)
    (case k_Sizes_frame_cell => k_is)
    (case a_Sizes_cells => k_is)
    (case i_Sizes_cells => k_is)
    (case l_Sizes_cells => k_is)
    (case c_Sizes_cells => k_is)
    (case k_Sizes_cells => k_is)
    (case a_first_values => k_is)
    (case l_first_values => k_is)
    (case c_first_values => k_is)
    (case k_first_values => k_is)
    (case a_bound_of => k_is)
    (case l_bound_of => k_is)
    (case c_bound_of => k_is)
    (case k_bound_of => k_is)
    (case a_is_part => k_is)
    (case l_is_part => k_is)
    (case c_is_part => k_is)
    (case k_is_part => k_is)
    (case a_is_request => k_is)
    (case l_is_request => k_is)
    (case c_is_request => k_is)
    (case k_is_request => k_is)
    (case a_Memory_init => k_is)
    (case i_Memory_init => k_is)
    (case l_Memory_init => k_is)
    (case c_Memory_init => k_is)
    (case k_Memory_init => k_is)
    (case a_Memory_access => k_is)
    (case i_Memory_access => k_is)
    (case l_Memory_access => k_is)
    (case c_Memory_access => k_is)
    (case k_Memory_access => k_is)
    (case a_Memory_peek => k_is)
    (case i_Memory_peek => k_is)
    (case l_Memory_peek => k_is)
    (case c_Memory_peek => k_is)
    (case k_Memory_peek => k_is)
    (case a_Memory_log => k_is)
    (case i_Memory_log => k_is)
    (case l_Memory_log => k_is)
    (case c_Memory_log => k_is)
    (case k_Memory_log => k_is)
    (case a_Memory__result => k_is)
    (case i_Memory__result => k_is)
    (case l_Memory__result => k_is)
    (case c_Memory__result => k_is)
    (case k_Memory__result => k_is)
    (case a_Memory__swap => k_is)
    (case i_Memory__swap => k_is)
    (case l_Memory__swap => k_is)
    (case c_Memory__swap => k_is)
    (case k_Memory__swap => k_is)
    (case a_Memory__take => k_is)
    (case i_Memory__take => k_is)
    (case l_Memory__take => k_is)
    (case c_Memory__take => k_is)
    (case k_Memory__take => k_is)
    (case a_Memory__walk => k_is)
    (case i_Memory__walk => k_is)
    (case l_Memory__walk => k_is)
    (case c_Memory__walk => k_is)
    (case k_Memory__walk => k_is)
    (case a_Memory__reached => k_is)
    (case i_Memory__reached => k_is)
    (case l_Memory__reached => k_is)
    (case c_Memory__reached => k_is)
    (case k_Memory__reached => k_is)
    (case a_Memory__load => k_is)
    (case i_Memory__load => k_is)
    (case l_Memory__load => k_is)
    (case c_Memory__load => k_is)
    (case k_Memory__load => k_is)
    (case a_Memory__store => k_is)
    (case i_Memory__store => k_is)
    (case l_Memory__store => k_is)
    (case c_Memory__store => k_is)
    (case k_Memory__store => k_is)
    (case a_Memory__change => k_is)
    (case i_Memory__change => k_is)
    (case l_Memory__change => k_is)
    (case c_Memory__change => k_is)
    (case k_Memory__change => k_is)
    (case a__law_tape => k_is)
    (case l__law_tape => k_is)
    (case c__law_tape => k_is)
    (case k__law_tape => k_is)
    (case a__law_at => k_is)
    (case l__law_at => k_is)
    (case c__law_at => k_is)
    (case k__law_at => k_is)
    (case a__law_put => k_is)
    (case l__law_put => k_is)
    (case c__law_put => k_is)
    (case k__law_put => k_is)
    (case a__law_frame => k_is)
    (case l__law_frame => k_is)
    (case c__law_frame => k_is)
    (case k__law_frame => k_is)
    (case a__law_use => k_is)
    (case l__law_use => k_is)
    (case c__law_use => k_is)
    (case k__law_use => k_is)
    (case a__law_due => k_is)
    (case l__law_due => k_is)
    (case c__law_due => k_is)
    (case k__law_due => k_is)
    (case a__law_request => k_is)
    (case l__law_request => k_is)
    (case c__law_request => k_is)
    (case k__law_request => k_is)
    (case a__law_same => k_is)
    (case l__law_same => k_is)
    (case c__law_same => k_is)
    (case k__law_same => k_is)
    (case a__law_looks => k_is)
    (case l__law_looks => k_is)
    (case c__law_looks => k_is)
    (case k__law_looks => k_is)
    (case a_law => k_is)
    (case l_law => k_is)
    (case c_law => k_is)
    (case k_law => k_is)
    (case pg_Buffer => k_is)
    (case hd_Buffer => k_is)
    (case po_Buffer => k_is)
    (case sa_Buffer => k_is)
    (case mk_Buffer => k_is)
    (case kc_Buffer => k_is)
    (case n_Buffer__entries => k_is)
    (case pg_Box => k_is)
    (case hd_Box => k_is)
    (case po_Box => k_is)
    (case sa_Box => k_is)
    (case mk_Box => k_is)
    (case kc_Box => k_is)
    (case n_Box__letters => k_is)
    (case pg_Sizes => k_is)
    (case hd_Sizes => k_is)
    (case po_Sizes => k_is)
    (case sa_Sizes => k_is)
    (case mk_Sizes => k_is)
    (case kc_Sizes => k_is)
    (case n_Sizes_processors => k_is)
    (case n_Sizes_frames => k_is)
    (case n_Sizes_blocks => k_is)
    (case n_Sizes__acknowledges => k_is)
    (case n_Sizes__words => k_is)
    (case n_Sizes__frame_cells => k_is)
    (case n_Sizes__swap_blocks => k_is)
    (case n_Sizes__file_blocks => k_is)
    (case pg_Memory => k_is)
    (case hd_Memory => k_is)
    (case po_Memory => k_is)
    (case sa_Memory => k_is)
    (case mk_Memory => k_is)
    (case kc_Memory => k_is)
    (case n_Memory_sizes => k_is)
    (case n_Memory_count => k_is)
    (case n_Memory_buffers => k_is)
    (case n_Memory_boxes => k_is)
    (case n_Memory__cells => k_is)
    (case n_Memory__log => k_is)
    (case z_CELLS => k_is)
    (case z_FILES => k_is)
    (case z_FILE_PAGES => k_is)
    (case z_MOST_ENTRIES => k_is)
    (case z_PAGES => k_is)
    (case z_SPACES => k_is)
    (case z_ValueError => k_is)
    (case z_abs => k_is)
    (case z_all => k_is)
    (case z_bool => k_is)
    (case z_dict => k_is)
    (case z_int => k_is)
    (case z_isinstance => k_is)
    (case z_len => k_is)
    (case z_list => k_is)
    (case z_max => k_is)
    (case z_min => k_is)
    (case z_range => k_is)
    (case z_str => k_is)
    (case z_tuple => k_is)
    (case z_zip => k_is)
    (case y_xL => k_is)
    (case y_vV => k_is)
    (case y_xi_NotValid => k_is)
    (case y_xt_NotValid => k_is)
    (case y_xs_NotValid => k_is)
    (case y_xb_NotValid => k_is)
    (case y_xy_NotValid => k_is)
    (case y_xk_NotValid => k_is)
    (case y_e1 => k_is)
    (case y_e2 => k_is)
    (case y_e4 => k_is)
    (case y_e5 => k_is)
    (case y_e6 => k_is)
    (case y_e7 => k_is)
    (case y_e8 => k_is)
    (case y_p1 => k_is)
    (case y_p2 => k_is)
    (case y_p3 => k_is)
    (case y_p4 => k_is)
    (case y_q4 => first | rfl | k_is)
    (case y_gP => k_is)
    (case y_sP => first | rfl | decide)
    (case y_lP => k_is)
    (case y_t0 => k_is)
    (case y_t1 => k_is)
    (case y_t2 => k_is)
    (case y_t3 => k_is)
    (case y_t4 => k_is)
    (case y_t5 => k_is)
    (case y_t6 => k_is)
    (case y_t7 => k_is)
    (case y_t8 => k_is)
