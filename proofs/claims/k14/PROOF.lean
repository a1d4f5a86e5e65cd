import PyProof.Rows.All
import Wide.All
import OpenK.AllK
import Wide.FinOn
import HandS.ForExc
import HandS.Comp
import HandS.IsInst
import HandS.ExcInit
import HandS.ExcIs
import HandS.CallSlots
import PyProof.RulesMatchSeq
import PyProof.Rows.MatchSeqLen
import HandS.Dict
import HandS.Iter
import HandS.Zip
import HandS.TupAny
import HandS.TupLe
import HandS.Flow
import PySem.Challenge.RW_frametally_k14_what_is_an_area_and_a_cal
set_option Elab.async false
set_option linter.all false
set_option maxRecDepth 100000
set_option maxHeartbeats 4000000
/-! Data that stands in the heap (None, bools, ints, texts, lists, tuples): how it stays, what shape it has, its type. -/
namespace Dk
open PySem PySem.Spec PyProof.Rows L2

theorem Same.tupS {K : PySem.W.Frag} {H H' : Hp} {a : Addr} {xs : List V} (e : Same H H') (h : SqT K H a xs) : SqT K H' a xs := by
  rcases h with (h | ⟨o, h⟩) | h
  · exact .inl (.inl (e _ _ h))
  · exact .inl (.inr ⟨o, e _ _ h⟩)
  · exact .inr h
theorem Same.new {H : Hp} {p : Addr} {o : HO} (h : H p = none) : Same H (upd H p o) := fun b u e => (upd_ne (ne_of_none e h)).trans e
/-- an object that H does not track may be written -/
theorem Same.put {H H' : Hp} {p : Addr} {o : HO} (e : Same H H') (h : H p = none) : Same H (upd H' p o) := fun b u k => (upd_ne (ne_of_none k h)).trans (e b u k)

mutual
theorem dp_mono {K : PySem.W.Frag} {H H' : Hp} (e : Same H H') : ∀ {d : PyData} {v : V}, Dp K H v d → Dp K H' v d
  | .none, _, h => by cases h; exact .non
  | .bool b, _, h => by cases h; exact .bl b
  | .int i, _, h => by cases h; exact .int i
  | .str x, _, h => by cases h; exact .str x
  | .list ds, _, h => by
    cases h with
    | lst s q => exact .lst (e.seq s) (dpAll_mono e q)
  | .tuple ds, _, h => by
    cases h with
    | tup s q => exact .tup (Same.tupS e s) (dpAll_mono e q)
  | .dict _, _, h => by cases h
theorem dpAll_mono {K : PySem.W.Frag} {H H' : Hp} (e : Same H H') : ∀ {ds : List PyData} {vs : List V}, DpAll K H vs ds → DpAll K H' vs ds
  | [], _, h => by cases h; exact .nil
  | d :: ds, _, h => by
    cases h with
    | cons a b => exact .cons (dp_mono e a) (dpAll_mono e b)
end
section
variable {K : PySem.W.Frag} {H : Hp}
theorem dpAll_app : ∀ {xs ys : List V} {ds es : List PyData}, DpAll K H xs ds → DpAll K H ys es → DpAll K H (xs ++ ys) (ds ++ es)
  | _, _, _, _, .nil, q => q
  | _, _, _, _, .cons a b, q => .cons a (dpAll_app b q)
theorem dpAll_len : ∀ {xs : List V} {ds : List PyData}, DpAll K H xs ds → xs.length = ds.length
  | _, _, .nil => rfl
  | _, _, .cons _ b => congrArg (· + 1) (dpAll_len b)
theorem dpAll_drop : ∀ {xs : List V} {ds : List PyData} (n : Nat), DpAll K H xs ds → DpAll K H (xs.drop n) (ds.drop n)
  | _, _, 0, q => q
  | _, _, n + 1, .nil => .nil
  | _, _, n + 1, .cons _ b => dpAll_drop n b
theorem dpAll_get : ∀ {xs : List V} {ds : List PyData} {i : Nat} {v : V}, DpAll K H xs ds → xs[i]? = some v → ∃ d, ds[i]? = some d ∧ Dp K H v d
  | _, _, _, _, .nil, e => by simp at e
  | _, _, 0, _, .cons a _, e => by
    simp at e
    subst e
    exact ⟨_, rfl, a⟩
  | _, _, i + 1, _, .cons _ b, e => by
    obtain ⟨d, h1, h2⟩ := dpAll_get (i := i) b (by simpa using e)
    exact ⟨d, by simpa using h1, h2⟩
theorem dpAll_ints (ns : List Int) : DpAll K H (ns.map V.int) (ns.map PyData.int) := by
  induction ns with
  | nil => exact .nil
  | cons n ns ih => exact .cons (.int n) ih
end

theorem take_snoc {α : Type} : ∀ {l : List α} {i : Nat} {x : α}, l[i]? = some x → l.take (i + 1) = l.take i ++ [x]
  | [], _, _, h => by simp at h
  | y :: l, 0, _, h => by
    simp at h
    subst h
    rfl
  | y :: l, i + 1, _, h => by
    have ih := take_snoc (l := l) (i := i) (by simpa using h)
    rw [List.take_succ_cons, ih, List.take_succ_cons]
    rfl

theorem ifF {c : Bool} {A B : Prop} (h : c = false) (b : B) : if c = true then A else B := by
  rw [h]
  exact iteF b
theorem ifT {c : Bool} {A B : Prop} (h : c = true) (b : A) : if c = true then A else B := by
  rw [h]
  exact iteT b
theorem upd_comm {H : Hp} {a b : Addr} {o u : HO} (h : a ≠ b) : upd (upd H a o) b u = upd (upd H b u) a o := by
  funext c
  by_cases ca : c = a
  · rw [ca, upd_ne h, upd_same, upd_same]
  · by_cases cb : c = b
    · rw [cb, upd_same, upd_ne (Ne.symm h), upd_same]
    · rw [upd_ne cb, upd_ne ca, upd_ne ca, upd_ne cb]
theorem upd_self {H : Hp} {a : Addr} {o : HO} (h : H a = some o) : upd H a o = H := by
  funext c
  by_cases ca : c = a
  · rw [ca, upd_same, h]
  · rw [upd_ne ca]

theorem cut1 (xs : List V) : cutV xs (some 1) none = xs.drop 1 := by
  unfold cutV
  have e1 : HT.sIx xs.length 0 (some 1) = min 1 xs.length := HT.sIx_nat xs.length 0 1
  rw [e1, HT.sIx_none]
  cases xs with
  | nil => rfl
  | cons x xs =>
    rw [show min 1 (x :: xs).length = 1 by simp only [List.length_cons]; omega]
    exact List.take_of_length_le (by rw [List.length_drop]; omega)

/-- a new object beside a list under construction at D -/
theorem new_under {G : Hp} {D p : Addr} {u o : HO} (gD : G D = none) (h : upd G D u p = none) : upd (upd G D u) p o = upd (upd G p o) D u ∧ G p = none ∧ upd G p o D = none := by
  have ne : p ≠ D := fun e => by
    rw [e, upd_same] at h
    cases h
  exact ⟨upd_comm (Ne.symm ne), (upd_ne ne).symm.trans h, (upd_ne (Ne.symm ne)).trans gD⟩

/-! ### tuples stay, whatever is written elsewhere -/
def IsT : HO → Prop
  | .tup _ => True
  | .frz _ u => IsT u
  | _ => False
def KT (H H' : Hp) : Prop := ∀ b o, H b = some o → IsT o → H' b = some o
theorem KT.refl (H : Hp) : KT H H := fun _ _ h _ => h
theorem KT.trans {H H1 H2 : Hp} (a : KT H H1) (b : KT H1 H2) : KT H H2 := fun c o h k => b c o (a c o h k) k
theorem KT.of {H H' : Hp} (e : Same H H') : KT H H' := fun b o h _ => e b o h
theorem KT.put {H : Hp} {a : Addr} {u : HO} (h : ∀ o, H a = some o → ¬ IsT o) : KT H (upd H a u) := fun b o e k => by
  have ne : b ≠ a := fun z => h o (z ▸ e) k
  rw [upd_ne ne]
  exact e
theorem KT.lst {H : Hp} {a : Addr} {xs : List V} {u : HO} (h : H a = some (.lst xs)) : KT H (upd H a u) := KT.put fun o e k => by
  rw [h] at e
  cases e
  exact k
theorem KT.ins {H : Hp} {a C dx : Addr} {fs : List (Str × V)} {u : HO} (h : H a = some (.ins C dx fs)) : KT H (upd H a u) := KT.put fun o e k => by
  rw [h] at e
  cases e
  exact k
theorem KT.new {H : Hp} {a : Addr} {u : HO} (h : H a = none) : KT H (upd H a u) := KT.of (Same.new h)
theorem KT.tupS {K : PySem.W.Frag} {H H' : Hp} {a : Addr} {xs : List V} (e : KT H H') (h : SqT K H a xs) : SqT K H' a xs := by
  rcases h with (h | ⟨o, h⟩) | h
  · exact .inl (.inl (e _ _ h True.intro))
  · exact .inl (.inr ⟨o, e _ _ h True.intro⟩)
  · exact .inr h
mutual
/-- no list, no dict within -/
def noL : PyData → Bool
  | .none => true
  | .bool _ => true
  | .int _ => true
  | .str _ => true
  | .list _ => false
  | .dict _ => false
  | .tuple ds => noLs ds
def noLs : List PyData → Bool
  | [] => true
  | d :: ds => noL d && noLs ds
end
mutual
theorem dp_keep {K : PySem.W.Frag} {H H' : Hp} (e : KT H H') : ∀ {d : PyData} {v : V}, noL d = true → Dp K H v d → Dp K H' v d
  | .none, _, _, h => by cases h; exact .non
  | .bool b, _, _, h => by cases h; exact .bl b
  | .int i, _, _, h => by cases h; exact .int i
  | .str x, _, _, h => by cases h; exact .str x
  | .list ds, _, n, h => by simp [noL] at n
  | .tuple ds, _, n, h => by
    cases h with
    | tup s q => exact .tup (e.tupS s) (dpAll_keep e (by simpa [noL] using n) q)
  | .dict _, _, _, h => by cases h
theorem dpAll_keep {K : PySem.W.Frag} {H H' : Hp} (e : KT H H') : ∀ {ds : List PyData} {vs : List V}, noLs ds = true → DpAll K H vs ds → DpAll K H' vs ds
  | [], _, _, h => by cases h; exact .nil
  | d :: ds, _, n, h => by
    cases h with
    | cons a b =>
      have n2 : noL d = true ∧ noLs ds = true := by simpa [noLs] using n
      exact .cons (dp_keep e n2.1 a) (dpAll_keep e n2.2 b)
end
theorem noLs_of : ∀ {ds : List PyData}, (∀ d ∈ ds, noL d = true) → noLs ds = true
  | [], _ => by simp only [noLs]
  | d :: ds, h => by
    simp only [noLs, h d (List.mem_cons_self ..), noLs_of fun x hx => h x (List.mem_cons_of_mem _ hx), Bool.and_self]
theorem noL_tup {ds : List PyData} (h : ∀ d ∈ ds, noL d = true) : noL (.tuple ds) = true := by
  simp only [noL]
  exact noLs_of h

/-! ### shapes -/
structure Sh (n : Nat) (d : PyData) : Prop where
  lay : d.canLay0 = true
  deep : d.depth ≤ n
theorem Sh.up {n m : Nat} {d : PyData} (h : Sh n d) (k : n ≤ m) : Sh m d := ⟨h.lay, Nat.le_trans h.deep k⟩
theorem sh_none : Sh 0 .none := ⟨by simp only [PyData.canLay0], by simp only [PyData.depth]; omega⟩
theorem sh_int (i : Int) : Sh 0 (.int i) := ⟨by simp only [PyData.canLay0], by simp only [PyData.depth]; omega⟩
theorem sh_bool (b : Bool) : Sh 0 (.bool b) := ⟨by simp only [PyData.canLay0], by simp only [PyData.depth]; omega⟩
theorem sh_all {n : Nat} : ∀ {ds : List PyData}, (∀ d ∈ ds, Sh n d) → PyData.canLayAll0 ds = true ∧ PyData.depthAll ds ≤ n
  | [], _ => ⟨by simp only [PyData.canLayAll0], by simp only [PyData.depthAll]; omega⟩
  | d :: ds, h => by
    have h1 := h d (List.mem_cons_self ..)
    obtain ⟨h2, h3⟩ := sh_all (n := n) (ds := ds) fun x hx => h x (List.mem_cons_of_mem _ hx)
    exact ⟨by simp only [PyData.canLayAll0, h1.lay, h2, Bool.and_self], by simp only [PyData.depthAll]; exact Nat.max_le.mpr ⟨h1.deep, h3⟩⟩
theorem sh_tup {n : Nat} {ds : List PyData} (h : ∀ d ∈ ds, Sh n d) : Sh (n + 1) (.tuple ds) := by
  obtain ⟨h1, h2⟩ := sh_all h
  exact ⟨by simp only [PyData.canLay0]; exact h1, by simp only [PyData.depth]; omega⟩
theorem sh_lst {n : Nat} {ds : List PyData} (h : ∀ d ∈ ds, Sh n d) : Sh (n + 1) (.list ds) := by
  obtain ⟨h1, h2⟩ := sh_all h
  exact ⟨by simp only [PyData.canLay0]; exact h1, by simp only [PyData.depth]; omega⟩
theorem Sh.ok {n : Nat} {d : PyData} (h : Sh n d) (k : n ≤ 64 := by decide) : SeqAt.shaped d = true := by
  unfold SeqAt.shaped
  rw [h.lay, decide_eq_true (Nat.le_trans h.deep k)]
  rfl
theorem Sh.refl {n : Nat} {d : PyData} (h : Sh n d) : PyData.eqv d d = true := SeqAt.eqv_refl d h.lay

/-! ### types -/
def tyN : PyData → String
  | .none => "NoneType"
  | .bool _ => "bool"
  | .int _ => "int"
  | .str _ => "str"
  | .list _ => "list"
  | .tuple _ => "tuple"
  | .dict _ => "dict"
theorem tyx {K : PySem.W.Frag} {H : Hp} {v : V} {d : PyData} (h : Dp K H v d) : TyX K H v (.type (tyN d)) := by
  cases h with
  | non => exact .base .non
  | bl b => exact .base (.bl b)
  | int i => exact .base (.int i)
  | str x => exact .base (.str x)
  | lst s _ =>
    rcases s with (s | ⟨o, s⟩) | s
    · exact .base (.lst s)
    · exact .base (.frz s)
    · obtain ⟨o, _, _, h1, h2, _⟩ := s
      exact .kList h1 h2
  | tup s _ =>
    rcases s with (s | ⟨o, s⟩) | s
    · exact .base (.tup s)
    · exact .fTuple s
    · obtain ⟨o, _, _, h1, h2, _⟩ := s
      exact .kTuple h1 h2

/-! ### isinstance over data -/
def isInt : PyData → Bool
  | .int _ => true
  | .bool _ => true
  | _ => false
def isBool : PyData → Bool
  | .bool _ => true
  | _ => false
def isTup : PyData → Bool
  | .tuple _ => true
  | _ => false
def isLst : PyData → Bool
  | .list _ => true
  | _ => false
def kits (c : String) : List (Option Bool) := ["NoneType", "bool", "int", "str", "list", "tuple", "dict"].map fun t => kitB t c
theorem kits_at {c : String} {b0 b1 b2 b3 b4 b5 b6 : Bool} (h : kits c = [some b0, some b1, some b2, some b3, some b4, some b5, some b6]) (d : PyData) :
    kitB (tyN d) c = some (match d with | .none => b0 | .bool _ => b1 | .int _ => b2 | .str _ => b3 | .list _ => b4 | .tuple _ => b5 | .dict _ => b6) := by
  simp only [kits, List.map_cons, List.map_nil, List.cons.injEq, and_true] at h
  obtain ⟨h0, h1, h2, h3, h4, h5, h6⟩ := h
  cases d
  · exact h0
  · exact h1
  · exact h2
  · exact h3
  · exact h4
  · exact h5
  · exact h6
section
variable {K : PySem.W.Frag}
theorem kit_int (d : PyData) : PySem.W.kitOne K (.type (tyN d)) (.type "int") = some (isInt d) := by
  refine (kit_ty (kits_at (by decide +kernel : kits "int" = [some false, some true, some true, some false, some false, some false, some false]) d)).trans ?_
  cases d <;> rfl
theorem kit_bool (d : PyData) : PySem.W.kitOne K (.type (tyN d)) (.type "bool") = some (isBool d) := by
  refine (kit_ty (kits_at (by decide +kernel : kits "bool" = [some false, some true, some false, some false, some false, some false, some false]) d)).trans ?_
  cases d <;> rfl
theorem kit_tup (d : PyData) : PySem.W.kitOne K (.type (tyN d)) (.type "tuple") = some (isTup d) := by
  refine (kit_ty (kits_at (by decide +kernel : kits "tuple" = [some false, some false, some false, some false, some false, some true, some false]) d)).trans ?_
  cases d <;> rfl
theorem kit_lst (d : PyData) : PySem.W.kitOne K (.type (tyN d)) (.type "list") = some (isLst d) := by
  refine (kit_ty (kits_at (by decide +kernel : kits "list" = [some false, some false, some false, some false, some true, some false, some false]) d)).trans ?_
  cases d <;> rfl
end
end Dk
/-! An own error class over ValueError that is made without an argument and keeps no field: C(), its __init__ walked as a def. -/
namespace Ek
open PySem PySem.Spec PyProof.Rows L2
section
variable {X : Cx} {a C : Addr} {p pos : Pos}

/-- behind C(): the error at a is let go, nothing else of the heap has changed its tracking -/
theorem let_go {pins : List (Addr × Obj)} {σ : L2.St} {H1 H2 : Hp} {u v w2 : Heap} {gA gB : Array GenState} {dA dB : Drawn} {tA tB : Nat} {oA oB : OsState}
    (I1 : Inv X pins σ H1 ⟨u, gA, dA, tA, oA⟩) (ha : u.objs.size ≤ a) (kp : ∀ b o, u.get? b = some o → v.get? b = some o)
    (un : Un (frs X.stack) [] (upd H1 a (exo a C none)) H2 v w2) (ok2 : HOk X.prog X.w H2 w2) (eo : oB = oA) (bare : AllBare gB) (ea : H2 a = some (exo a C none)) :
    ∃ (t0 : Addr) (G : Heap), Inv X pins σ (del H2 a) ⟨G, gB, dB, tB, oB⟩ ∧ (∀ b o, G.get? b = some o → w2.get? b = some o) ∧ G.get? a = none ∧
      w2.get? a = some ({ cls := .ref C, dict := none, data := .fields #[.ref t0, .none, .none, .none, .bool false, .none] } : Obj) := by
  obtain ⟨t0, he⟩ := exo_at ok2 ea
  have hn : H1 a = none := I1.hok.fresh ha
  obtain ⟨G, gIn, gOut⟩ := restrict w2 (fun b => decide (b ≠ a))
  have same : ∀ b, b ≠ a → G.get? b = w2.get? b := fun b hb => gIn b (decide_eq_true hb)
  have gone : G.get? a = none := gOut a (by simp)
  have old : ∀ {b : Addr} {o : Obj}, u.get? b = some o → b ≠ a := fun {b o} z => Nat.ne_of_lt (Nat.lt_of_lt_of_le (Heap.lt_size z) ha)
  have up : ∀ {b : Addr}, b ≠ a → H1 b = none → upd H1 a (exo a C none) b = none := fun {b} hb n => (upd_ne hb).trans n
  have U : Un (frs X.stack) [] H1 (del H2 a) u G :=
    { keep := fun b o z n hf hx => (same b (old z)).trans (un.keep b o (kp b o z) (up (old z) n) hf hx)
      slot := fun b o z n hf hx => by
        obtain ⟨sl, e⟩ := un.slot b o (kp b o z) (up (old z) n) hf hx
        exact ⟨sl, (same b (old z)).trans e⟩
      free := fun b o z n hx => (del_ne (old z)).trans (un.free b o (kp b o z) (up (old z) n) hx)
      there := fun b o z hx => by
        obtain ⟨o2, e⟩ := un.there b o (kp b o z) hx
        exact ⟨o2, (same b (old z)).trans e⟩
      tups := fun b xs z => (del_ne (ne_of_none z hn)).trans (un.tups b xs ((upd_ne (ne_of_none z hn)).trans z))
      frzs := fun b o y z => (del_ne (ne_of_none z hn)).trans (un.frzs b o y ((upd_ne (ne_of_none z hn)).trans z))
      tbls := fun b ps z => by
        obtain ⟨more, e⟩ := un.tbls b ps ((upd_ne (ne_of_none z hn)).trans z)
        exact ⟨more, (del_ne (ne_of_none z hn)).trans e⟩ }
  have noa : ∀ {b c : Addr}, H2 c = some (.own b) → c ≠ a := fun {b c} hc => at_ne ea hc exo_own
  have ok3 : HOk X.prog X.w (del H2 a) G := fun b o z => by
    have hba : b ≠ a := fun e => by
      rw [e, del_same] at z
      cases z
    rw [del_ne hba] at z
    refine (ok2 b o z).stay (fun c y hc q => ?_) (fun c hc => (del_ne (noa hc)).trans hc) (fun c xs hc => (del_ne (at_ne ea hc exo_tup)).trans hc)
    have hca : c ≠ a := by
      rcases hc with hc | hc
      · exact hc ▸ hba
      · exact noa hc
    exact (same c hca).trans q
  refine ⟨t0, G, I1.call' (ch := []) eo U ok3 bare (fun b z => absurd z (by simp)), fun b o z => ?_, gone, he⟩
  by_cases hba : b = a
  · rw [hba, gone] at z
    cases z
  · exact (same b hba).symm.trans z

/-- C(), where __init__ sets nothing -/
def tMk0 (C : Addr) (sp : Sp) : L2.St → Hp → XK → Prop := fun _ H Q => ∀ a, H a = none →
  sp [.ref a] (upd H a (exo a C none)) (fun v H2 => v = .non ∧ H2 a = some (exo a C none) ∧ Q (.ref C) none (del H2 a)) (fun _ _ _ => False)
theorem mk_exc0 {CX : CXT} {x : Str} {C fI : Addr} {k : Nat} {fd : FuncData} {ps : List Str} {sp : Sp} (T : OexC X.K C)
    (iC : PySem.W.findIn X.K (.ref C) "__init__" = some (some (.ref fI))) (tI : PySem.W.typeIn X.K (.ref fI) = some (.type "function"))
    (F1 : FnOk X.prog X.w X.K X.mg X.base CX k fI fd ps sp) (hr : Room (k + 1) X.A) (hb : Binds X.K fd ps []) (hx : Passes CX X (fun _ _ _ => False))
    (hg : Gl X x) (hm : X.mg x = some (.ref C)) (hdb : (x == ("__debug__" : Str)) = false := by decide) :
    PMk X (.Call (.Name x p) [] [] pos) (tMk0 C sp) := by
  intro pins s σ H Q I h
  obtain ⟨nm, q, N, bs, bm, sn, sub, ab, col, dd, k0, k1, k2, k3, k5, hC, hbm⟩ := T.cls
  refine wpAny_Call_Name_kw (ld_glob I hg hm ?_ hdb)
  refine PySem.W.callWith_K0 I.kIn T.kC ?_
  show wpAny _ _ (call (.ref C) []) _ _ _
  obtain ⟨hp, g, dr, tk, os⟩ := s
  have hsz : hp.objs.size ≤ hp.objs.size + 1 := Nat.le_succ _
  have hn : H (hp.objs.size + 1) = none := I.hok.fresh hsz
  have want := h (hp.objs.size + 1) hn
  have keep2 : ∀ b o, hp.get? b = some o → ((hp.push (PySem.W.kdv_tup [])).push (PySem.HandSPX.excO C hp.objs.size)).get? b = some o :=
    fun b o e => Heap.get?_push_of_some _ (Heap.get?_push_of_some _ e)
  have atE : ((hp.push (PySem.W.kdv_tup [])).push (PySem.HandSPX.excO C hp.objs.size)).get? (hp.objs.size + 1) = some (PySem.HandSPX.excO C hp.objs.size) := by heap_get
  have I2 : Inv X pins σ (upd H (hp.objs.size + 1) (exo (hp.objs.size + 1) C none)) ⟨(hp.push (PySem.W.kdv_tup [])).push (PySem.HandSPX.excO C hp.objs.size), g, dr, tk, os⟩ :=
    I.laid (t' := tk) (a := hp.objs.size + 1) (o := exo (hp.objs.size + 1) C none) (h' := (hp.push (PySem.W.kdv_tup [])).push (PySem.HandSPX.excO C hp.objs.size)) keep2 hsz (exo_ok atE)
  have r2 : Vals [V.ref (hp.objs.size + 1)] [Value.ref (hp.objs.size + 1)] := .cons rfl .nil
  have len1 : ([Value.ref (hp.objs.size + 1)] : List Value).length = ps.length := by
    have e := r2.length
    rw [F1.len _ _ _ _ want] at e
    exact e.symm
  refine wpAny_call (PySem.HandSPX.call_own (rest := []) F.excBase_ValueError (fun Y => PySem.HandSPX.refsVE_contains Y bm hbm) (I.kIn _ _ hC) (PySem.W.looks_findIn I.kIn iC)
    (fun self => PySem.W.bind_fn I.kIn self tI) (Nat.zero_le _) (codeAny_mono (F1.run _ X.stack _ _ ⟨[Value.ref (hp.objs.size + 1)], []⟩ [Value.ref (hp.objs.size + 1)] _ _ (fun _ _ _ => False)
      (hr.make C [] []) (I2.env0.make C [] []) (hb _ [Value.ref (hp.objs.size + 1)] I2.kIn len1) r2 want) fun r s2 back => ?_))
  cases r with
  | error er => exact hx pins σ _ _ er s2 I2 back
  | ok fl =>
    cases fl with
    | ret y =>
      obtain ⟨v, H2, os2, bare2, un2, hok2, rv, ev, ea, wish⟩ := back
      subst ev
      obtain ⟨h2, g2, d2, t2, o2⟩ := s2
      obtain ⟨t0, G, J, kG, gone, there⟩ := let_go (dB := d2) (tB := t2) I hsz keep2 un2 hok2 os2 bare2 ea
      exact ⟨rv, ⟨_, _, _, ⟨G, g2, d2, t2, o2⟩, _, .ref C, none, rfl, J, kG, gone, there, ⟨rfl, rfl⟩, rfl, rfl, del_same, rfl, bare2, raises_own T.exC T.tyC, wish⟩⟩
    | next => exact back.elim
    | brk => exact back.elim
    | cont => exact back.elim
end

section
variable {X : Cx} {CX : CXT} {k : Nat} {f C : Addr} {fd : FuncData} {ps : List Str} {sp : Sp} {E : L2.St → XK} {m : Str} {apos pos : Pos} {e o : Expr} {es : List Expr} {ta : TE} {t : TA}
/-- o.m(e, ..), where what is raised is wished for at the caller's slots -/
def tMethW (C : Addr) (m : Str) (sp : Sp) (E : L2.St → XK) (ta : TE) (t : TA) : TE := fun σ H Q => ta σ H fun x H1 =>
  ∃ a dx fs, x = .ref a ∧ H1 a = some (.ins C dx fs) ∧ fs.lookup m = none ∧ t σ H1 fun vs H2 => sp (x :: vs) H2 Q (E σ)
theorem pe_methW {pl : Sem Bool} (he : PE X o ta) (c : Cls X.K C) (hm : Meth X.K C m f) (F : FnOk X.prog X.w X.K X.mg X.base CX k f fd ps sp) (hr : Room k X.A) (hb : Binds X.K fd ps [])
    (hx : ∀ σ, PassesAt CX X σ (E σ)) (ha : PA X (e :: es) t)
    (hst : starEach (e :: es) X.env = (false, eval e X.env) :: starEach es X.env := by rfl) (hpl : (backTo pos (starEach es X.env)).any (·.1) = false := by rfl)
    (ht : eval (.Call (.Attribute o m apos) (e :: es) [] pos) X.env = (do
      let ov ← eval o X.env
      standAt apos.atName
      let fr ← holding [ov] (getMethod ov m pl)
      callWith pos fr.1 fr.2 (backTo pos (starEach (e :: es) X.env)) (backToKw pos (keywordEach [] X.env))) := by rfl) :
    PE X (.Call (.Attribute o m apos) (e :: es) [] pos) (tMethW C m sp E ta t) := by
  refine ⟨fun pins s σ H Q I h => ?_⟩
  refine PySem.W.methodCall_KW (pl := pl) (thn (he.run pins s σ H _ I h) fun u s1 ⟨x, H1, I1, rx, a, dx, fs, ex, ea, l, q⟩ => ?_) ht
  subst ex
  obtain rfl : u = Value.ref a := rx
  refine getmeth_ok I1 ea c hm l ?_
  refine PySem.W.callWith_K (first := [.ref a]) (h₀ := X.base) I.ok.mod.kin hm.kp (thn (ha.run pos pins s1 σ H1 _ I1 q) fun us s2 ⟨vs, H2, I2, r, q2⟩ => ⟨I2.kIn, ?_⟩) hst hpl
  exact run_fnS (us := .ref a :: us) (vs := .ref a :: vs) F hr hb (hx σ) I2 (.cons rfl r) q2
end

theorem hu65 {k : Nat} {A : Around} (hr : Room k A) : A.units + 65 < cLine := by
  have := hr.un
  omega
/-- a module's constant -/
theorem pe_con {X : Cx} {x : Str} {pos : Pos} {v : V} (hg : Gl X x) (h : ∃ u, X.mg x = some u ∧ RelV v u) (hdb : (x == ("__debug__" : Str)) = false := by decide) : PE X (.Name x pos) (tC v) := by
  obtain ⟨u, h1, h2⟩ := h
  exact pe_glob hg h1 h2 hdb
/-- a statement and what follows it, joined by a word of one's own: what follows is read once, whatever way led there -/
def tMid (t u : TS) : TS := fun D σ H => ∃ M : L2.St → Hp → Prop, t { D with nx := M } σ H ∧ ∀ σ2 H2, M σ2 H2 → u D σ2 H2
theorem pss_mid {X : Cx} {st : Stmt} {more : List Stmt} {t u : TS} (hs : PS X st t) (hm : PSs X more u) : PSs X (st :: more) (tMid t u) := ⟨fun pins s σ H D I ⟨M, hM, hu⟩ =>
  wpAny_execs_cons (thn (hs.run pins s σ H { D with nx := M } I hM) fun f s2 back => by
    cases f with
    | next =>
      obtain ⟨σ2, H2, I2, y⟩ := back
      exact hm.run pins s2 σ2 H2 D I2 (hu σ2 H2 y)
    | ret v => exact back
    | brk => exact back
    | cont => exact back)⟩
/-- a block that is walked under a condition which its reading brings -/
theorem pss_under {X : Cx} {sts : List Stmt} {P : Prop} {t : TS} (h : P → PSs X sts t) : PSs X sts (fun D σ H => P ∧ t D σ H) :=
  ⟨fun pins s σ H D I q => (h q.1).run pins s σ H D I q.2⟩
section
variable {X : Cx} {CX : CXT} {k : Nat} {f C : Addr} {fd : FuncData} {ps : List Str} {sp : Sp} {E : L2.St → XK} {x : Str} {p pos : Pos} {e : Expr} {es : List Expr} {t : TA}
/-- C(e, ..), where what is raised is wished for at the caller's slots -/
def tMakeW (C : Addr) (sp : Sp) (E : L2.St → XK) (t : TA) : TE := fun σ H Q => t σ H fun vs H1 => ∀ x dx, H1 x = none → H1 dx = none → dx ≠ x → sp (.ref x :: vs) (upd (upd H1 dx (.own x)) x (.ins C dx [])) (fun v H2 => v = .non ∧ Q (.ref x) H2) (E σ)
theorem run_makeW {pins : List (Addr × Obj)} {σ : L2.St} {H : Hp} {s : Shared} {Q : VK} {us : List Value} {vs : List V} (M : Mk X.K C f) (F : FnOk X.prog X.w X.K X.mg X.base CX k f fd ps sp) (hr : Room (k + 1) X.A) (hb : Binds X.K fd ps [])
    (hx : PassesAt CX X σ (E σ)) (I : Inv X pins σ H s) (r : Vals vs us)
    (h : ∀ x dx, H x = none → H dx = none → dx ≠ x → sp (.ref x :: vs) (upd (upd H dx (.own x)) x (.ins C dx [])) (fun v H2 => v = .non ∧ Q (.ref x) H2) (E σ)) :
    wpAny (model X.prog X.w) X.A (call (.ref C) us) (EP X pins σ Q) X.xe s := by
  have hq := h (s.heap.objs.size + 1) s.heap.objs.size (I.hok.fresh (Nat.le_succ _)) (I.hok.fresh (Nat.le_refl _)) (Nat.ne_of_lt (Nat.lt_succ_self _))
  have I2 := Inv.made (C := C) I
  have r2 : Vals (V.ref (s.heap.objs.size + 1) :: vs) (Value.ref (s.heap.objs.size + 1) :: us) := .cons rfl r
  have hl : (Value.ref (s.heap.objs.size + 1) :: us).length = ps.length := by
    have e := r2.length
    rw [F.len _ _ _ _ hq] at e
    exact e.symm
  have b := hb ((⟨_, s.gens, s.drawn, s.toks, s.os⟩ : Shared)) (Value.ref (s.heap.objs.size + 1) :: us) I2.kIn (by rw [List.append_nil]; exact hl)
  rw [List.append_nil] at b
  refine wpAny_call (make_map (f := f) I.kIn M.makes M.init (beq_iff_eq.mp M.fn) (codeAny_mono (F.run _ X.stack _ _ ⟨Value.ref (s.heap.objs.size + 1) :: us, []⟩ (Value.ref (s.heap.objs.size + 1) :: us) _ _ (E σ) (hr.make C us [])
    (I2.env0.make C us []) b r2 hq) fun r s' hq' => ?_))
  cases r with
  | error e => exact hx pins _ _ e s' I2 hq'
  | ok fl =>
    cases fl with
    | ret u =>
      obtain ⟨v, H', I3, rv, ev, q3⟩ := I2.after hq'
      subst ev
      exact ⟨rv, ⟨V.ref (s.heap.objs.size + 1), H', I3, rfl, q3⟩⟩
    | next => exact False.elim hq'
    | brk => exact False.elim hq'
    | cont => exact False.elim hq'
theorem pe_makeW (M : Mk X.K C f) (F : FnOk X.prog X.w X.K X.mg X.base CX k f fd ps sp) (hr : Room (k + 1) X.A) (hg : Gl X x) (hm : X.mg x = some (.ref C)) (hb : Binds X.K fd ps []) (hx : ∀ σ, PassesAt CX X σ (E σ))
    (ha : PA X (e :: es) t) (hdb : (x == ("__debug__" : Str)) = false := by decide) (he : starEach (e :: es) X.env = (false, eval e X.env) :: starEach es X.env := by rfl) (hpl : (backTo pos (starEach es X.env)).any (·.1) = false := by rfl) :
    PE X (.Call (.Name x p) (e :: es) [] pos) (tMakeW C sp E t) := by
  refine ⟨fun pins s σ H Q I h => ?_⟩
  refine wpAny_Call_Name_kw (ld_glob I hg hm ?_ hdb)
  refine PySem.W.callWith_K (h₀ := X.base) I.ok.mod.kin M.kp (thn (ha.run pos pins s σ H _ I h) fun us s1 ⟨vs, H1, I1, r, q⟩ => ⟨I1.kIn, ?_⟩) he hpl
  exact run_makeW M F hr hb (hx σ) I1 r q
end
end Ek
/-! Buffers' entries: tuples (space, page, frame, writable) in the heap; pairs; x not in a list or tuple of data; table words. -/
namespace Nk
open PySem PySem.Spec PyProof.Rows L2 Dk

/-- all but the object at b is as it was -/
def SameBut (b : Addr) (H H' : Hp) : Prop := ∀ x o, x ≠ b → H x = some o → H' x = some o
theorem Same.but {b : Addr} {H H' : Hp} (e : Same H H') : SameBut b H H' := fun x o _ h => e x o h
theorem SameBut.trans {b : Addr} {H H1 H2 : Hp} (e : SameBut b H H1) (f : SameBut b H1 H2) : SameBut b H H2 := fun x o n h => f x o n (e x o n h)
theorem SameBut.put {b p : Addr} {H H' : Hp} {o : HO} (e : SameBut b H H') (h : H p = none) : SameBut b H (upd H' p o) := fun x u n k => (upd_ne (ne_of_none k h)).trans (e x u n k)
theorem SameBut.own {b : Addr} {H H' : Hp} {o : HO} (e : SameBut b H H') : SameBut b H (upd H' b o) := fun x u n k => (upd_ne n).trans (e x u n k)
/-- tuples stay where the object at b is none -/
theorem SameBut.kt {b C dx : Addr} {fs : List (Str × V)} {H H' : Hp} (e : SameBut b H H') (h : H b = some (.ins C dx fs)) : KT H H' := fun x o k t => e x o (fun z => by
  rw [z, h] at k
  cases k
  exact t) k

structure En where
  (s p f : Int)
  w : Bool
def eV (e : En) : List V := [.int e.s, .int e.p, .int e.f, .bl e.w]
def eD (e : En) : PyData := .tuple [.int e.s, .int e.p, .int e.f, .bool e.w]
def aV (z : Addr × En) : V := .ref z.1
def EnAll (H : Hp) (zs : List (Addr × En)) : Prop := ∀ z ∈ zs, H z.1 = some (.tup (eV z.2))
theorem EnAll.kt {H H' : Hp} {zs : List (Addr × En)} (h : EnAll H zs) (e : KT H H') : EnAll H' zs := fun z hz => e _ _ (h z hz) True.intro
theorem EnAll.nil (H : Hp) : EnAll H [] := fun _ h => absurd h List.not_mem_nil
theorem EnAll.app {H : Hp} {zs ys : List (Addr × En)} (h : EnAll H zs) (k : EnAll H ys) : EnAll H (zs ++ ys) := fun z hz => (List.mem_append.mp hz).elim (h z) (k z)
theorem EnAll.one {H : Hp} {t : Addr} {e : En} (h : H t = some (.tup (eV e))) : EnAll H [(t, e)] := fun z hz => by
  rw [List.mem_singleton.mp hz]
  exact h
theorem EnAll.filter {H : Hp} {zs : List (Addr × En)} (h : EnAll H zs) (c : Addr × En → Bool) : EnAll H (zs.filter c) := fun z hz => h z (List.mem_filter.mp hz).1
theorem EnAll.drop {H : Hp} {zs : List (Addr × En)} (h : EnAll H zs) (n : Nat) : EnAll H (zs.drop n) := fun z hz => h z (List.mem_of_mem_drop hz)
theorem EnAll.dp {K : PySem.W.Frag} {H : Hp} : ∀ {zs : List (Addr × En)}, EnAll H zs → DpAll K H (zs.map aV) ((zs.map Prod.snd).map eD)
  | [], _ => .nil
  | z :: zs, h => .cons (.tup (SqT.of (h z (List.mem_cons_self ..))) (.cons (.int _) (.cons (.int _) (.cons (.int _) (.cons (.bl _) .nil))))) (EnAll.dp fun y hy => h y (List.mem_cons_of_mem _ hy))
theorem shE (e : En) : Sh 1 (eD e) := sh_tup fun d hd => by
  simp only [List.mem_cons, List.not_mem_nil, or_false] at hd
  rcases hd with rfl | rfl | rfl | rfl
  · exact sh_int _
  · exact sh_int _
  · exact sh_int _
  · exact sh_bool _
theorem shEs (es : List En) : Sh 2 (.list (es.map eD)) := sh_lst fun d hd => by
  obtain ⟨e, _, rfl⟩ := List.mem_map.mp hd
  exact shE e
theorem map_get {α β : Type} {f : α → β} {l : List α} {i : Nat} {y : β} (h : (l.map f)[i]? = some y) : ∃ x, l[i]? = some x ∧ y = f x := by
  rw [List.getElem?_map] at h
  cases e : l[i]? with
  | none =>
    rw [e] at h
    cases h
  | some x =>
    rw [e] at h
    exact ⟨x, rfl, (Option.some.inj h).symm⟩
theorem mem_of_get {α : Type} {l : List α} {i : Nat} {x : α} (h : l[i]? = some x) : x ∈ l := by
  obtain ⟨hi, e⟩ := List.getElem?_eq_some_iff.mp h
  exact e ▸ List.getElem_mem hi

/-! ### pairs -/
def pD (q : Int × Int) : PyData := .tuple [.int q.1, .int q.2]
theorem eqv_pD (q r : Int × Int) : PyData.eqv (pD q) (pD r) = decide (q = r) := by
  obtain ⟨a, b⟩ := q
  obtain ⟨c, d⟩ := r
  simp only [pD, PyData.eqv, PyData.eqvAll, Bool.and_true, Prod.mk.injEq]
  by_cases h1 : a = c
  · by_cases h2 : b = d
    · simp [h1, h2]
    · simp [h1, h2]
  · simp [h1]
theorem shP (q : Int × Int) : Sh 1 (pD q) := sh_tup fun d hd => by
  simp only [List.mem_cons, List.not_mem_nil, or_false] at hd
  rcases hd with rfl | rfl
  · exact sh_int _
  · exact sh_int _
theorem shPs (ps : List (Int × Int)) : Sh 2 (.list (ps.map pD)) := sh_lst fun d hd => by
  obtain ⟨e, _, rfl⟩ := List.mem_map.mp hd
  exact shP e
def keep (ps : List (Int × Int)) (e : En) : Bool := !ps.any fun q => decide (q = (e.s, e.p))
theorem any_pD (ps : List (Int × Int)) (e : En) : (!(ps.map pD).any fun d => PyData.eqv d (pD (e.s, e.p))) = keep ps e := by
  unfold keep
  rw [List.any_map]
  congr 2
  funext q
  exact eqv_pD q (e.s, e.p)

theorem filter_snd (c : En → Bool) : ∀ zs : List (Addr × En), (zs.filter fun z => c z.2).map Prod.snd = (zs.map Prod.snd).filter c
  | [] => rfl
  | z :: zs => by
    have ih := filter_snd c zs
    rw [List.filter_cons, List.map_cons, List.filter_cons]
    by_cases h : c z.2 = true
    · rw [if_pos h, if_pos h, List.map_cons, ih]
    · rw [if_neg h, if_neg h, ih]

/-! ### x not in y, y a list or a tuple of data -/
def rNiD (K : PySem.W.Frag) : R2 := fun x y H Q => ∃ d ds, Dp K H x d ∧ (Dp K H y (.list ds) ∨ Dp K H y (.tuple ds)) ∧ SeqAt.shaped d = true ∧ SeqAt.shaped (.list ds) = true ∧ Q (.bl (!ds.any fun z => PyData.eqv z d)) H
theorem op_niD {X : Cx} (hu : X.A.units + 65 < cLine) : OpR X (compareOp .NotIn) (rNiD X.K) := by
  intro pins s σ H x y v u Q I rx ry h
  obtain ⟨d, ds, hd, he, sd, se, q⟩ := h
  obtain ⟨as, r1⟩ := Dp.reads I d x v hd rx
  have c1 := SeqAt.canLay_of_shaped se
  have c2 := SeqAt.canLay_of_shaped sd
  have d2 := SeqAt.depth_of_shaped sd
  have room : X.A.units + 1 + min (PyData.depthAll ds) d.depth < cLine := by
    have := Nat.min_le_right (PyData.depthAll ds) d.depth
    omega
  rcases he with he | he
  · obtain ⟨bs, r2⟩ := Dp.reads I (.list ds) y u he ry
    exact SeqAt.notIn_list_reads r2 r1 (by simpa only [PyData.canLay0] using c1) c2 room ⟨.bl _, H, I, rfl, q⟩
  · obtain ⟨bs, r2⟩ := Dp.reads I (.tuple ds) y u he ry
    exact SeqAt.notIn_tuple_reads r2 r1 (by simpa only [PyData.canLay0] using c1) c2 room ⟨.bl _, H, I, rfl, q⟩

/-! ### table words of the law, the buffer's mirror -/
inductive Wd where
  | frame (f : Int) (w : Bool)
  | non
  | swap (n : Int)
  | file
  | held
def Wd.leads : Wd → Bool
  | .frame _ _ => true
  | _ => false
def wD : Wd → PyData
  | .frame f w => .tuple [.str "frame", .int f, .bool w]
  | .non => .none
  | .swap n => .tuple [.str "swap", .int n]
  | .file => .tuple [.str "file", .int 1, .int 2]
  | .held => .tuple [.str "held"]
def last2 (es : List En) : List En := if 2 < es.length then es.drop 1 else es
def putM (s p : Int) (x : Wd) (es : List En) : List En := match x with
  | .frame f w => last2 (es.filter (keep [(s, p)]) ++ [⟨s, p, f, w⟩])
  | _ => es.filter (keep [(s, p)])
theorem cut_last2 (xs : List V) : cutV xs (some (-2)) none = xs.drop (xs.length - 2) := by
  unfold cutV
  have e1 : HT.sIx xs.length 0 (some (-2)) = xs.length - 2 := by
    show (if (-2 : Int) < 0 then ((-2 : Int) + (xs.length : Int)).toNat else min (-2 : Int).toNat xs.length) = _
    rw [if_pos (by decide)]
    omega
  rw [e1, HT.sIx_none]
  refine List.take_of_length_le ?_
  rw [List.length_drop]
  omega
theorem last2_drop (es : List En) (e : En) {n : Nat} (hn : n = es.length + 1 ∧ es.length ≤ 2) : (es ++ [e]).drop (n - 2) = last2 (es ++ [e]) := by
  unfold last2
  rw [List.length_append, List.length_singleton]
  by_cases h : 2 < es.length + 1
  · rw [if_pos h, show n - 2 = 1 by omega]
  · rw [if_neg h, show n - 2 = 0 by omega]
    rfl
def midM (s p : Int) (x : Wd) (es : List En) : List En := match x with
  | .frame f w => es.filter (keep [(s, p)]) ++ [⟨s, p, f, w⟩]
  | _ => es.filter (keep [(s, p)])
theorem last2_mid (s p : Int) (x : Wd) {es : List En} (h : es.length ≤ 2) : last2 (midM s p x es) = putM s p x es := by
  have l : (es.filter (keep [(s, p)])).length ≤ 2 := Nat.le_trans (List.length_filter_le _ _) h
  cases x with
  | frame f w => rfl
  | _ => exact if_neg (by show ¬ 2 < (es.filter (keep [(s, p)])).length; omega)
theorem putM_len (s p : Int) (x : Wd) {es : List En} (h : es.length ≤ 2) : (putM s p x es).length ≤ 2 := by
  have l : (es.filter (keep [(s, p)])).length ≤ 2 := Nat.le_trans (List.length_filter_le _ _) h
  cases x with
  | frame f w =>
    show (last2 _).length ≤ 2
    unfold last2
    split
    · rw [List.length_drop, List.length_append, List.length_singleton]
      omega
    · omega
  | _ => exact l
theorem midM_len (s p : Int) (x : Wd) {es : List En} (h : es.length ≤ 2) : (midM s p x es).length ≤ 3 := by
  have l : (es.filter (keep [(s, p)])).length ≤ 2 := Nat.le_trans (List.length_filter_le _ _) h
  cases x with
  | frame f w =>
    show (_ ++ [_]).length ≤ 3
    rw [List.length_append, List.length_singleton]
    omega
  | _ => exact Nat.le_trans l (by decide)
theorem keep_one (s p : Int) (e : En) : keep [(s, p)] e = !decide ((e.s, e.p) = (s, p)) := by
  unfold keep
  simp only [List.any_cons, List.any_nil, Bool.or_false]
  by_cases h : (s, p) = (e.s, e.p)
  · rw [decide_eq_true h, decide_eq_true h.symm]
  · rw [decide_eq_false h, decide_eq_false (fun z => h z.symm)]
def fits (s p : Int) (wr : Bool) (e : En) : Bool := decide ((e.s, e.p) = (s, p)) && (e.w || !wr)
def frameM (s p : Int) (wr : Bool) (es : List En) : Option Int := (es.find? (fits s p wr)).map (·.f)
def optV : Option Int → V
  | none => .non
  | some i => .int i
theorem find_at {es : List En} {c : En → Bool} : ∀ {i : Nat} {e : En}, es[i]? = some e → (∀ y ∈ es.take i, c y = false) → c e = true → es.find? c = some e := by
  induction es with
  | nil => intro i e h _ _; simp at h
  | cons x es ih =>
    intro i e h hn hc
    cases i with
    | zero =>
      simp at h
      subst h
      simp [hc]
    | succ i =>
      have hx : c x = false := hn x (by simp)
      rw [List.find?_cons, hx]
      exact ih (i := i) (by simpa using h) (fun y hy => hn y (by simp [hy])) hc
theorem find_no {es : List En} {c : En → Bool} (h : ∀ y ∈ es, c y = false) : es.find? c = none := List.find?_eq_none.mpr fun y hy => by simp [h y hy]
end Nk
/-! Tests of data (whole numbers, tuples, words), the sizes' fields, promises that several laws share. -/
namespace Wk
open PySem PySem.Spec PyProof.Rows L2 Dk Ek Nk
/-! ### tests of data -/
def wholeD : PyData → Bool
  | .int _ => true
  | _ => false
def belowD (d : PyData) (n : Int) : Bool := match d with
  | .int i => decide (0 ≤ i) && decide (i < n)
  | _ => false
def tupD (d : PyData) (n : Int) : Bool := match d with
  | .tuple ds => decide ((ds.length : Int) = n)
  | _ => false
theorem tup2 {d : PyData} (h : tupD d 2 = true) : ∃ x y, d = .tuple [x, y] := by
  cases d with
  | tuple ds =>
    match ds, h with
    | [x, y], _ => exact ⟨x, y, rfl⟩
    | [], h => simp [tupD] at h
    | [x], h => simp [tupD] at h
    | x :: y :: z :: r, h =>
      simp only [tupD, List.length_cons, decide_eq_true_eq] at h
      omega
  | _ => simp [tupD] at h
theorem tup3 {d : PyData} (h : tupD d 3 = true) : ∃ x y z, d = .tuple [x, y, z] := by
  cases d with
  | tuple ds =>
    match ds, h with
    | [x, y, z], _ => exact ⟨x, y, z, rfl⟩
    | [], h => simp [tupD] at h
    | [x], h => simp [tupD] at h
    | [x, y], h => simp [tupD] at h
    | x :: y :: z :: u :: r, h =>
      simp only [tupD, List.length_cons, decide_eq_true_eq] at h
      omega
  | _ => simp [tupD] at h
/-- the value is the text z -/
def isS (d : PyData) (z : Str) : Bool := match d with
  | .str y => y == z
  | _ => false
theorem eqv_str (d : PyData) (z : Str) : PyData.eqv d (.str z) = isS d z := by
  cases d <;> simp [PyData.eqv, isS]
theorem isS_iff {d : PyData} {z : Str} : isS d z = true ↔ d = .str z := by
  cases d <;> simp [isS]
theorem Sh.elem {n : Nat} {ds : List PyData} {d : PyData} (h : Sh n (.tuple ds)) (m : d ∈ ds) : Sh n d := by
  have l := h.lay
  have e := h.deep
  simp only [PyData.canLay0] at l
  simp only [PyData.depth] at e
  have key : ∀ es : List PyData, d ∈ es → PyData.canLayAll0 es = true → d.canLay0 = true ∧ d.depth ≤ PyData.depthAll es := by
    intro es
    induction es with
    | nil => intro m _; exact absurd m List.not_mem_nil
    | cons x es ih =>
      intro m k
      simp only [PyData.canLayAll0, Bool.and_eq_true] at k
      simp only [PyData.depthAll]
      rcases List.mem_cons.mp m with rfl | m
      · exact ⟨k.1, Nat.le_max_left _ _⟩
      · obtain ⟨h1, h2⟩ := ih m k.2
        exact ⟨h1, Nat.le_trans h2 (Nat.le_max_right _ _)⟩
  obtain ⟨h1, h2⟩ := key ds m l
  exact ⟨h1, by omega⟩
theorem sh_str (s : Str) (h : PyData.canLay0 (.str s) = true) : Sh 0 (.str s) := ⟨h, by simp only [PyData.depth]; omega⟩
/-! ### promises of the small tests -/
def spNop (K : PySem.W.Frag) : Sp := fun vs H Q _ => ∃ (a C : Addr), vs = [.ref a] ∧ OexC K C ∧ H a = some (exo a C none) ∧ Q .non H
def spWhole (K : PySem.W.Frag) : Sp := fun vs H Q _ => ∃ (v : V) (d : PyData), vs = [v] ∧ Dp K H v d ∧ Q (.bl (wholeD d)) H
def spBelow (K : PySem.W.Frag) : Sp := fun vs H Q _ => ∃ (v : V) (d : PyData) (n : Int), vs = [v, .int n] ∧ Dp K H v d ∧ Q (.bl (belowD d n)) H
def spTupOf (K : PySem.W.Frag) : Sp := fun vs H Q _ => ∃ (v : V) (d : PyData) (n : Int), vs = [v, .int n] ∧ Dp K H v d ∧ Q (.bl (tupD d n)) H
def spBetween : Sp := fun vs H Q _ => ∃ v l m : Int, vs = [.int v, .int l, .int m] ∧ Q (.bl (decide (l ≤ v) && decide (v ≤ m))) H
/-! ### words that lead to frames -/
def leadsD : PyData → Bool
  | .tuple [x, _, _] => isS x "frame"
  | _ => false
theorem leads_no {d : PyData} (h : tupD d 3 = false) : leadsD d = false := by
  unfold leadsD
  split
  · simp [tupD] at h
  · rfl
theorem leads_yes {d : PyData} (h : leadsD d = true) : ∃ f w, d = .tuple [.str "frame", f, w] := by
  unfold leadsD at h
  split at h
  · rename_i x f w
    rw [isS_iff] at h
    exact ⟨f, w, by rw [h]⟩
  · cases h
def spLeads (K : PySem.W.Frag) : Sp := fun vs H Q _ => ∃ (y : V) (d : PyData), vs = [y] ∧ Dp K H y d ∧ Sh 60 d ∧ Q (.bl (leadsD d)) H
/-! ### the sizes -/
def szF (p f b : Int) : List (Str × V) := [("processors", .int p), ("frames", .int f), ("blocks", .int b), ("_acknowledges", .int 1), ("_words", .int (1 + p)), ("_frame_cells", .int (1 + p + 4 * 8)),
  ("_swap_blocks", .int (1 + p + 4 * 8 + 2 * f)), ("_file_blocks", .int (1 + p + 4 * 8 + 2 * f + b))]
def okSz (p f b : Int) : Bool := decide (1 ≤ p) && decide (p ≤ 3) && (decide (2 ≤ f) && decide (f ≤ 12)) && (decide (0 ≤ b) && decide (b ≤ 12))
def spSizesInit (C N : Addr) : Sp := fun vs H Q E => ∃ (z dx : Addr) (p f b : Int), vs = [.ref z, .int p, .int f, .int b] ∧ H z = some (.ins C dx []) ∧
  (okSz p f b = true → ∀ H', SameBut z H H' → H' z = some (.ins C dx (szF p f b)) → Q .non H') ∧ (okSz p f b = false → ∀ H', Same H H' → E (.ref N) none H')
/-! ### table words -/
def isStr : PyData → Bool
  | .str _ => true
  | _ => false
theorem kit_str {K : PySem.W.Frag} (d : PyData) : PySem.W.kitOne K (.type (tyN d)) (.type "str") = some (isStr d) := by
  refine (kit_ty (kits_at (by decide +kernel : kits "str" = [some false, some false, some false, some true, some false, some false, some false]) d)).trans ?_
  cases d <;> rfl
def frB (F : Int) : List PyData → Bool
  | [x, y] => belowD x F && isBool y
  | _ => false
def swB (B : Int) : List PyData → Bool
  | [x] => belowD x B
  | _ => false
def flB : List PyData → Bool
  | [x, y] => belowD x 2 && belowD y 4
  | _ => false
def wordB (F B : Int) (x : PyData) (r : List PyData) : Bool :=
  if isS x "frame" = true then frB F r else if isS x "swap" = true then swB B r else if isS x "file" = true then flB r else isS x "held" && r.isEmpty
def wordM (F B : Int) : PyData → Bool
  | .none => true
  | .tuple (x :: r) => wordB F B x r
  | _ => false
theorem frB_no {F : Int} {r : List PyData} (h : r.length ≠ 2) : frB F r = false := by
  unfold frB
  split
  · exact absurd rfl h
  · rfl
theorem swB_no {F : Int} {r : List PyData} (h : r.length ≠ 1) : swB F r = false := by
  unfold swB
  split
  · exact absurd rfl h
  · rfl
theorem flB_no {r : List PyData} (h : r.length ≠ 2) : flB r = false := by
  unfold flB
  split
  · exact absurd rfl h
  · rfl
theorem len2 {r : List PyData} (h : r.length = 2) : ∃ x y, r = [x, y] := by
  match r, h with
  | [x, y], _ => exact ⟨x, y, rfl⟩
theorem len1 {r : List PyData} (h : r.length = 1) : ∃ x, r = [x] := by
  match r, h with
  | [x], _ => exact ⟨x, rfl⟩
theorem isS_ne {d : PyData} {y z : Str} (h : isS d y = true) (n : (y == z) = false) : isS d z = false := by
  rw [isS_iff] at h
  subst h
  exact n
/-- the words whose numbers exist -/
inductive W2 where
  | frame (f : Int) (w : Bool)
  | non
  | swap (n : Int)
  | file (f p : Int)
  | held
def w2D : W2 → PyData
  | .frame f w => .tuple [.str "frame", .int f, .bool w]
  | .non => .none
  | .swap n => .tuple [.str "swap", .int n]
  | .file f p => .tuple [.str "file", .int f, .int p]
  | .held => .tuple [.str "held"]
theorem below_int {d : PyData} {n : Int} (h : belowD d n = true) : ∃ i, d = .int i := by
  cases d with
  | int i => exact ⟨i, rfl⟩
  | _ => simp [belowD] at h
theorem bool_of {d : PyData} (h : isBool d = true) : ∃ b, d = .bool b := by
  cases d with
  | bool b => exact ⟨b, rfl⟩
  | _ => simp [isBool] at h
theorem w2_of {F B : Int} {d : PyData} (h : wordM F B d = true) : ∃ x, d = w2D x := by
  unfold wordM at h
  split at h
  · exact ⟨.non, rfl⟩
  · rename_i x r
    unfold wordB at h
    split at h
    · rename_i e
      rw [isS_iff] at e
      unfold frB at h
      split at h
      · rename_i u v
        rw [Bool.and_eq_true] at h
        obtain ⟨i, rfl⟩ := below_int h.1
        obtain ⟨b, rfl⟩ := bool_of h.2
        exact ⟨.frame i b, by rw [e]; rfl⟩
      · cases h
    · split at h
      · rename_i e
        rw [isS_iff] at e
        unfold swB at h
        split at h
        · obtain ⟨i, rfl⟩ := below_int h
          exact ⟨.swap i, by rw [e]; rfl⟩
        · cases h
      · split at h
        · rename_i e
          rw [isS_iff] at e
          unfold flB at h
          split at h
          · rw [Bool.and_eq_true] at h
            obtain ⟨i, rfl⟩ := below_int h.1
            obtain ⟨j, rfl⟩ := below_int h.2
            exact ⟨.file i j, by rw [e]; rfl⟩
          · cases h
        · rw [Bool.and_eq_true, isS_iff] at h
          obtain ⟨e, e2⟩ := h
          exact ⟨.held, by rw [e, List.isEmpty_iff.mp e2]; rfl⟩
  · cases h
def W2.frame? : W2 → Option Int
  | .frame f _ => some f
  | _ => none
def W2.block? : W2 → Option Int
  | .swap n => some n
  | _ => none
def W2.wr : W2 → Bool
  | .frame _ w => w
  | _ => false
def W2.less : W2 → W2
  | .frame f _ => .frame f false
  | x => x
def W2.leads : W2 → Bool
  | .frame _ _ => true
  | _ => false
theorem leads_w2 (x : W2) : leadsD (w2D x) = x.leads := by
  cases x with
  | frame f w => rfl
  | file f p => exact (by decide : isS (.str "file") "frame" = false)
  | _ => rfl
theorem sh_c {n : Nat} {d : PyData} {ds : List PyData} (h : Sh n d) (k : ∀ x ∈ ds, Sh n x) : ∀ x ∈ d :: ds, Sh n x := fun x hx => (List.mem_cons.mp hx).elim (fun e => e ▸ h) (k x)
theorem sh_n {n : Nat} : ∀ x ∈ ([] : List PyData), Sh n x := fun _ h => absurd h List.not_mem_nil
theorem sh_w2 (x : W2) : Sh 1 (w2D x) := by
  have sF : Sh 0 (.str "frame") := sh_str _ (by decide +kernel)
  have sS : Sh 0 (.str "swap") := sh_str _ (by decide +kernel)
  have sL : Sh 0 (.str "file") := sh_str _ (by decide +kernel)
  have sH : Sh 0 (.str "held") := sh_str _ (by decide +kernel)
  cases x with
  | non => exact sh_none.up (by decide)
  | frame f w => exact sh_tup (sh_c sF (sh_c (sh_int _) (sh_c (sh_bool _) sh_n)))
  | swap n => exact sh_tup (sh_c sS (sh_c (sh_int _) sh_n))
  | file f p => exact sh_tup (sh_c sL (sh_c (sh_int _) (sh_c (sh_int _) sh_n)))
  | held => exact sh_tup (sh_c sH sh_n)
def spIsWord (K : PySem.W.Frag) (C : Addr) : Sp := fun vs H Q _ => ∃ (y : V) (d : PyData) (z dx : Addr) (p f b : Int), vs = [y, .ref z] ∧ Dp K H y d ∧ Sh 60 d ∧ H z = some (.ins C dx (szF p f b)) ∧ ∀ H', Same H H' → Q (.bl (wordM f b d)) H'
def spFrameOf (K : PySem.W.Frag) : Sp := fun vs H Q _ => ∃ (y : V) (x : W2), vs = [y] ∧ Dp K H y (w2D x) ∧ Q (optV x.frame?) H
def spBlockOf (K : PySem.W.Frag) : Sp := fun vs H Q _ => ∃ (y : V) (x : W2), vs = [y] ∧ Dp K H y (w2D x) ∧ Q (optV x.block?) H
def spIsWr (K : PySem.W.Frag) : Sp := fun vs H Q _ => ∃ (y : V) (x : W2), vs = [y] ∧ Dp K H y (w2D x) ∧ Q (.bl x.wr) H
def spReadOnly (K : PySem.W.Frag) : Sp := fun vs H Q _ => ∃ (y : V) (x : W2), vs = [y] ∧ Dp K H y (w2D x) ∧ ∀ y' H', Same H H' → Dp K H' y' (w2D x.less) → Q y' H'
end Wk
/-! match over a tuple whose first part is a text: case ("name", a, b, ..). -/
namespace Mc
open PySem PySem.Spec PyProof.Rows L2
abbrev TC := Str → List V → TS
section
variable {X : Cx}
structure PCs (X : Cx) (cs : List MatchCase) (t : TC) : Prop where
  run : ∀ (pins : List (Addr × Obj)) (s : Shared) (σ : L2.St) (H : Hp) (D : Ends) (a : Addr) (z : Str) (xs : List V) (first : Bool), Inv X pins σ H s → SqT X.K H a (.str z :: xs) → t z xs D σ H →
    wpAny (model X.prog X.w) X.A (matchCases cs X.env (.ref a) first) (SP X pins D) X.xe s
def setAll : L2.St → List Nat → List V → L2.St
  | σ, i :: is, v :: vs => setAll (σ.set i (some v)) is vs
  | σ, _, _ => σ
/-- the captures of a case, by their slots -/
inductive Caps (X : Cx) : List Pattern → List Nat → List Str → Prop where
  | nil : Caps X [] [] []
  | cons {n : Str} {i : Nat} {pos : Pos} {ps : List Pattern} {is : List Nat} {ns : List Str} (hi : X.N[i]? = some n) (hx : Loc X.env.scope n) (r : Caps X ps is ns)
      (hf : X.fn n = true ∨ X.env.scope.names.lookup n = some .local := by first | exact .inl rfl | exact .inr rfl | assumption) : Caps X (.MatchAs none (some n) pos :: ps) (i :: is) (n :: ns)
theorem Caps.len {ps : List Pattern} {is : List Nat} {ns : List Str} (c : Caps X ps is ns) : ps.length = is.length ∧ ns.length = is.length := by
  induction c with
  | nil => exact ⟨rfl, rfl⟩
  | cons _ _ _ _ ih => exact ⟨congrArg (· + 1) ih.1, congrArg (· + 1) ih.2⟩
theorem caps_match {M : Model} {A : Around} {E : Value → Shared → Prop} {ps : List Pattern} {is : List Nat} {ns : List Str} (c : Caps X ps is ns) : ∀ {us : List Value} {s : Shared} {Q : Option (List (Str × Value)) → Shared → Prop}, us.length = is.length → Q (some (ns.zip us)) s → wpAny M A (matchEach ps X.env us) Q E s := by
  induction c with
  | nil =>
    intro us s Q hl h
    exact wpAny_matchEach_nil h
  | @cons n i pos ps is ns hi hx r hf ih =>
    intro us s Q hl h
    cases us with
    | nil => cases hl
    | cons u us =>
      refine wpAny_matchEach_cons (wpAny_matchPattern_Capture ?_)
      exact ih (Nat.succ.inj hl) h
theorem caps_assign {ps : List Pattern} {is : List Nat} {ns : List Str} (c : Caps X ps is ns) (hN : X.N.Nodup) : ∀ {us : List Value} {vs : List V} {pins : List (Addr × Obj)} {σ : L2.St} {H : Hp} {s : Shared} {Q : Unit → Shared → Prop}, us.length = is.length → Vals vs us → Inv X pins σ H s →
    (∀ s', Inv X pins (setAll σ is vs) H s' → Q () s') → wpAny (model X.prog X.w) X.A (assignInOrder ((ns.zip us).map fun (n, _) => bindName X.env n) ((ns.zip us).map (·.2))) Q X.xe s := by
  induction c with
  | nil =>
    intro us vs pins σ H s Q hl r I h
    exact wpAny_assignInOrder_none (h s (by cases us with | nil => (cases r; exact I) | cons _ _ => cases hl))
  | @cons n i pos ps is ns hi hx r hf ih =>
    intro us vs pins σ H s Q hl rv I h
    cases us with
    | nil => cases hl
    | cons u us =>
      cases rv with
      | @cons v _ vs _ r1 r2 =>
        refine wpAny_assignInOrder_more (wpAny_bindName (store_ok I hN hi hx r1 (fun s1 I1 => ?_) hf))
        exact ih (Nat.succ.inj hl) r2 I1 h
theorem pc_nil : PCs X [] (fun _ _ D σ H => D.nx σ H) := ⟨fun pins s σ H D a z xs first I _ h => wpAny_matchCases_nil ⟨σ, H, I, h⟩⟩
def tCase (nm : Str) (is : List Nat) (tb : TS) (tr : TC) : TC := fun z xs D σ H =>
  ((z == nm) = true ∧ xs.length = is.length → tb D (setAll σ is xs) H) ∧ (¬ ((z == nm) = true ∧ xs.length = is.length) → tr z xs D σ H)
theorem pc_cons {nm : Str} {j : Nat} {p1 p2 p3 : Pos} {caps : List Pattern} {is : List Nat} {ns : List Str} {body : List Stmt} {rest : List MatchCase} {tb : TS} {tr : TC} (hc : X.calm = true) (hN : X.N.Nodup) (c : Caps X caps is ns) (hb : PSs X body tb) (hr : PCs X rest tr)
    (hstar : (Pattern.MatchValue (.Constant (.str nm) j p1) p2 :: caps).findIdx? (·.isStar) = none := by rfl)
    (hwild : ((Pattern.MatchValue (.Constant (.str nm) j p1) p2 :: caps).all fun p => p.isWildcard || (p.isStar && p.names.isEmpty)) = false := by rfl) :
    PCs X (⟨.MatchSequence (.MatchValue (.Constant (.str nm) j p1) p2 :: caps) p3, none, body⟩ :: rest) (tCase nm is tb tr) := by
  refine ⟨fun pins s σ H D a z xs first I hq h => ?_⟩
  obtain ⟨its, rv, ht, hz⟩ := I.tuple hq
  have hsl := sizeLine_eq
  cases rv with
  | @cons _ u _ us ru rus =>
    have hlx : xs.length = us.length := rus.length
    have hfit : ((u :: us).toArray.size : Int) < 2 ^ 63 := by
      simp only [List.length_cons] at hz
      simp only [List.size_toArray, List.length_cons]
      omega
    by_cases hl : xs.length = is.length
    · have hn : (u :: us).toArray.size = (Pattern.MatchValue (.Constant (.str nm) j p1) p2 :: caps).length := by
        simp only [List.size_toArray, List.length_cons]
        have := c.len.1
        omega
      refine wpAny_matchCases_cons (matchSeq_tuple_hit ht hfit hn ?_ hstar hwild)
      have hn2 : (Pattern.MatchValue (.Constant (.str nm) j p1) p2 :: caps).length = (u :: us).toArray.size := hn.symm
      rw [hn2]
      have I0 : Inv X pins σ H { s with toks := s.toks + 1 + 1 } := I.tok _
      refine unpackItems_tuple (I.ok.hd hc) ht fun h' hx => ?_
      have I1 : Inv X pins σ H { s with heap := h', toks := s.toks + 1 + 1 } := I0.kept (t' := s.toks + 1 + 1) fun b o e => hx b o (Nat.ne_of_lt (Heap.lt_size e)) e
      show wpAny _ _ (matchEach (_ :: _) X.env (u :: us)) _ _ _
      refine wpAny_matchEach_cons (wpAny_matchPattern_Value ?_)
      refine thn ((pe_str (X := X) (x := nm) (j := j) (pos := p1)).run pins _ σ H (fun v H' => v = .str nm ∧ H' = H) I1 ⟨rfl, rfl⟩) fun w s1 ⟨v, H', I2, rw_, hv, hH⟩ => ?_
      subst hv hH
      refine thn (op_eq (X := X) pins s1 σ H' (.str z) (.str nm) u w (fun v H'' => v = .bl (decide (V.str z = V.str nm)) ∧ H'' = H') I2 ru rw_ ⟨rfl, rfl, rfl⟩) fun cv s2 ⟨v, H'', I3, rc, hv, hH⟩ => ?_
      subst hv hH
      cases (show cv = Value.bool (decide (V.str z = V.str nm)) from rc)
      refine wpAny_truthy_bool ?_
      have ed : decide (V.str z = V.str nm) = (z == nm) := by
        rw [Bool.eq_iff_iff]
        simp
      by_cases hzn : (z == nm) = true
      · rw [ed, hzn]
        refine caps_match c (by omega) ?_
        show wpAny _ _ (assignInOrder ((([] : List (Str × Value)) ++ ns.zip us).map fun (n, _) => bindName X.env n) ((([] : List (Str × Value)) ++ ns.zip us).map (·.2))) _ _ _
        rw [List.nil_append]
        exact caps_assign c hN (by omega) rus I3 fun s3 I4 => hb.run pins s3 _ H'' D I4 (h.1 ⟨hzn, hl⟩)
      · rw [ed, Bool.eq_false_iff.mpr hzn]
        exact hr.run pins s2 σ H'' D a z xs false I3 hq (h.2 fun k => hzn k.1)
    · have hn : (u :: us).toArray.size ≠ (Pattern.MatchValue (.Constant (.str nm) j p1) p2 :: caps).length := by
        simp only [List.size_toArray, List.length_cons]
        have := c.len.1
        omega
      refine wpAny_matchCases_cons (matchSeq_tuple_miss ht hfit hn ?_ hstar hwild)
      exact hr.run pins _ σ H D a z xs false (I.tok _) hq (h.2 fun k => hl k.2)
def tMatch (K : PySem.W.Frag) (te : TE) (tc : TC) : TS := fun D σ H => te σ H fun x H1 => ∃ (a : Addr) (z : Str) (xs : List V), x = .ref a ∧ SqT K H1 a (.str z :: xs) ∧ tc z xs D σ H1
theorem ps_match {e : Expr} {cs : List MatchCase} {pos : Pos} {te : TE} {tc : TC} (he : PE X e te) (hc : PCs X cs tc) : PS X (.Match e cs pos) (tMatch X.K te tc) := by
  refine ⟨fun pins s σ H D I h => wpAny_Match (thn (he.run pins s σ H _ I h) fun u s1 ⟨x, H1, I1, rx, a, z, xs, ex, hq, q⟩ => ?_)⟩
  subst ex
  obtain rfl : u = Value.ref a := rx
  exact hc.run pins s1 σ H1 D a z xs true I1 hq q
end
end Mc
/-! match over a tuple of data, whatever it holds: case ("name", a, b, ..). -/
namespace Md
open PySem PySem.Spec PyProof.Rows L2 Dk Wk Mc
abbrev TD := List PyData → List V → TS
section
variable {X : Cx}
structure PDs (X : Cx) (cs : List MatchCase) (t : TD) : Prop where
  run : ∀ (pins : List (Addr × Obj)) (s : Shared) (σ : L2.St) (H : Hp) (D : Ends) (a : Addr) (ds : List PyData) (xs : List V) (first : Bool), Inv X pins σ H s → SqT X.K H a xs → DpAll X.K H xs ds → Sh 60 (.tuple ds) → t ds xs D σ H →
    wpAny (model X.prog X.w) X.A (matchCases cs X.env (.ref a) first) (SP X pins D) X.xe s
theorem pd_nil : PDs X [] (fun _ _ D σ H => D.nx σ H) := ⟨fun pins s σ H D a ds xs first I _ _ _ h => wpAny_matchCases_nil ⟨σ, H, I, h⟩⟩
def tCaseD (nm : Str) (is : List Nat) (tb : TS) (tr : TD) : TD := fun ds xs D σ H =>
  (∀ r, ds = .str nm :: r → r.length = is.length → tb D (setAll σ is (xs.drop 1)) H) ∧ ((∀ r, ds = .str nm :: r → r.length ≠ is.length) → tr ds xs D σ H)
theorem pd_cons {nm : Str} {j : Nat} {p1 p2 p3 : Pos} {caps : List Pattern} {is : List Nat} {ns : List Str} {body : List Stmt} {rest : List MatchCase} {tb : TS} {tr : TD} (hu : X.A.units + 64 < cLine) (hc : X.calm = true) (hN : X.N.Nodup) (c : Caps X caps is ns) (hb : PSs X body tb) (hr : PDs X rest tr)
    (hs : SeqAt.shaped (.str nm) = true := by decide +kernel)
    (hstar : (Pattern.MatchValue (.Constant (.str nm) j p1) p2 :: caps).findIdx? (·.isStar) = none := by rfl)
    (hwild : ((Pattern.MatchValue (.Constant (.str nm) j p1) p2 :: caps).all fun p => p.isWildcard || (p.isStar && p.names.isEmpty)) = false := by rfl) :
    PDs X (⟨.MatchSequence (.MatchValue (.Constant (.str nm) j p1) p2 :: caps) p3, none, body⟩ :: rest) (tCaseD nm is tb tr) := by
  refine ⟨fun pins s σ H D a ds xs first I hq hd sh h => ?_⟩
  obtain ⟨its, rv, ht, hz⟩ := I.tuple hq
  have hsl := sizeLine_eq
  have hlx : xs.length = its.length := rv.length
  have hld := dpAll_len hd
  have hfit : (its.toArray.size : Int) < 2 ^ 63 := by
    simp only [List.size_toArray]
    omega
  by_cases hl : xs.length = is.length + 1
  · cases hd with
    | nil => simp at hl
    | @cons x0 xr d0 dr h0 aR =>
    cases rv with
    | @cons _ u _ us ru rus =>
    have hlr : xr.length = is.length := Nat.succ.inj hl
    have hlu : xr.length = us.length := rus.length
    have hldr := dpAll_len aR
    have hn : (u :: us).toArray.size = (Pattern.MatchValue (.Constant (.str nm) j p1) p2 :: caps).length := by
      simp only [List.size_toArray, List.length_cons]
      have := c.len.1
      omega
    refine wpAny_matchCases_cons (matchSeq_tuple_hit ht hfit hn ?_ hstar hwild)
    have hn2 : (Pattern.MatchValue (.Constant (.str nm) j p1) p2 :: caps).length = (u :: us).toArray.size := hn.symm
    rw [hn2]
    have I0 : Inv X pins σ H { s with toks := s.toks + 1 + 1 } := I.tok _
    refine unpackItems_tuple (I.ok.hd hc) ht fun h' hx => ?_
    have I1 : Inv X pins σ H { s with heap := h', toks := s.toks + 1 + 1 } := I0.kept (t' := s.toks + 1 + 1) fun b o e => hx b o (Nat.ne_of_lt (Heap.lt_size e)) e
    show wpAny _ _ (matchEach (_ :: _) X.env (u :: us)) _ _ _
    refine wpAny_matchEach_cons (wpAny_matchPattern_Value ?_)
    refine thn ((pe_str (X := X) (x := nm) (j := j) (pos := p1)).run pins _ σ H (fun v H' => v = .str nm ∧ H' = H) I1 ⟨rfl, rfl⟩) fun w s1 ⟨v, H', I2, rw_, hv, hH⟩ => ?_
    subst hv hH
    refine thn (op_eqD (X := X) hu pins s1 σ H' x0 (.str nm) u w (fun v H'' => v = .bl (PyData.eqv d0 (.str nm)) ∧ H'' = H') I2 ru rw_ ⟨d0, .str nm, h0, .str _, (Wk.Sh.elem sh (d := d0) (by simp)).ok, hs, rfl, rfl⟩) fun cv s2 ⟨v, H'', I3, rc, hv, hH⟩ => ?_
    subst hv hH
    cases (show cv = Value.bool (PyData.eqv d0 (.str nm)) from rc)
    refine wpAny_truthy_bool ?_
    rw [eqv_str]
    cases e : isS d0 nm with
    | true =>
      rw [isS_iff] at e
      subst e
      refine caps_match c (by omega) ?_
      show wpAny _ _ (assignInOrder ((([] : List (Str × Value)) ++ ns.zip us).map fun (n, _) => bindName X.env n) ((([] : List (Str × Value)) ++ ns.zip us).map (·.2))) _ _ _
      rw [List.nil_append]
      exact caps_assign c hN (by omega) rus I3 fun s3 I4 => hb.run pins s3 _ H'' D I4 (h.1 dr rfl (by omega))
    | false =>
      refine hr.run pins s2 σ H'' D a (d0 :: dr) (x0 :: xr) false I3 hq (.cons h0 aR) sh (h.2 fun r hr2 => ?_)
      cases hr2
      rw [show isS (.str nm) nm = true from by simp [isS]] at e
      cases e
  · have hn : its.toArray.size ≠ (Pattern.MatchValue (.Constant (.str nm) j p1) p2 :: caps).length := by
      simp only [List.size_toArray, List.length_cons]
      have := c.len.1
      omega
    refine wpAny_matchCases_cons (matchSeq_tuple_miss ht hfit hn ?_ hstar hwild)
    refine hr.run pins _ σ H D a ds xs false (I.tok _) hq hd sh (h.2 fun r hr2 hl2 => ?_)
    rw [hr2, List.length_cons] at hld
    omega
def tMatchD (K : PySem.W.Frag) (te : TE) (tc : TD) : TS := fun D σ H => te σ H fun x H1 => ∃ (a : Addr) (ds : List PyData) (xs : List V), x = .ref a ∧ SqT K H1 a xs ∧ DpAll K H1 xs ds ∧ Sh 60 (.tuple ds) ∧ tc ds xs D σ H1
theorem ps_matchD {e : Expr} {cs : List MatchCase} {pos : Pos} {te : TE} {tc : TD} (he : PE X e te) (hc : PDs X cs tc) : PS X (.Match e cs pos) (tMatchD X.K te tc) := by
  refine ⟨fun pins s σ H D I h => wpAny_Match (thn (he.run pins s σ H _ I h) fun u s1 ⟨x, H1, I1, rx, a, ds, xs, ex, hq, hd, sh, q⟩ => ?_)⟩
  subst ex
  obtain rfl : u = Value.ref a := rx
  exact hc.run pins s1 σ H1 D a ds xs true I1 hq hd sh q
end
end Md
/-! xs[i] op= e, xs a list; a tape that changes in place: a list that holds a list of whole numbers and three numbers. -/
namespace Tk
open PySem PySem.Spec PyProof.Rows L2 Dk Nk
def rGetL (K : PySem.W.Frag) : V → V → Hp → VK → Prop := fun x y H Q => ∃ p xs i v, x = .ref p ∧ y = .int i ∧ SqL K H p xs ∧ 0 ≤ i ∧ atI xs i = some v ∧ Q v H
theorem pget_list {X : Cx} : PGet X (rGetL X.K) := by
  intro pins s σ H x y u v Q I rx ry h
  obtain ⟨p, xs, i, z, rfl, rfl, hq, h0, he, q⟩ := h
  cases rx
  obtain ⟨t, rfl⟩ := ry
  obtain ⟨its, r, pl, hz⟩ := I.list hq
  obtain ⟨j, h1, h2, h3, h4, h5⟩ := atI_get he
  obtain ⟨w, ew, rw'⟩ := r.get h2
  have hl := r.length
  have hn := line63
  have fin : EP X pins σ Q w s := ⟨z, H, I, rw', q⟩
  have hj : i.toNat = j := by
    rw [seqIndex_of h0 h5] at h1
    exact Option.some.inj h1
  exact wpAny_getItem_list pl.isList h0 (by omega) (by rw [hj]; simpa using ew) fin
theorem seq_put {K : PySem.W.Frag} {H : Hp} {a t : Addr} {xs : List V} {o : HO} (h : SqL K H a xs) (n : a ≠ t) : SqL K (upd H t o) a xs := by
  rcases h with (h | ⟨z, h⟩) | h
  · exact .inl (.inl ((upd_ne n).trans h))
  · exact .inl (.inr ⟨z, (upd_ne n).trans h⟩)
  · exact .inr h
theorem SameBut.seq {K : PySem.W.Frag} {H H' : Hp} {a t : Addr} {xs : List V} (e : SameBut t H H') (h : SqL K H a xs) (n : a ≠ t) : SqL K H' a xs := by
  rcases h with (h | ⟨z, h⟩) | h
  · exact .inl (.inl (e _ _ n h))
  · exact .inl (.inr ⟨z, e _ _ n h⟩)
  · exact .inr h
/-- the tape: where its list stands, and its script -/
structure TX where
  t : Addr
  sp : Addr
  ns : List Int
def TapeAt (K : PySem.W.Frag) (H : Hp) (x : TX) : Prop := ∃ (p r s : Int), H x.t = some (.lst [.ref x.sp, .int p, .int r, .int s]) ∧ SqL K H x.sp (x.ns.map V.int) ∧ x.sp ≠ x.t ∧ 0 ≤ p
theorem TapeAt.same {K : PySem.W.Frag} {H H' : Hp} {x : TX} (h : TapeAt K H x) (e : Same H H') : TapeAt K H' x := by
  obtain ⟨p, r, s, h1, h2, h3, h4⟩ := h
  exact ⟨p, r, s, e _ _ h1, e.seq h2, h3, h4⟩
/-- a step of the tape: all but its list is as it was -/
structure Ste (K : PySem.W.Frag) (x : TX) (H H' : Hp) : Prop where
  but : SameBut x.t H H'
  kt : KT H H'
  tape : TapeAt K H' x
theorem Ste.trans {K : PySem.W.Frag} {x : TX} {H H1 H2 : Hp} (a : Ste K x H H1) (b : Ste K x H1 H2) : Ste K x H H2 := ⟨a.but.trans b.but, a.kt.trans b.kt, b.tape⟩
theorem Ste.same {K : PySem.W.Frag} {x : TX} {H H1 H2 : Hp} (a : Ste K x H H1) (b : Same H1 H2) : Ste K x H H2 := ⟨a.but.trans (Nk.Same.but b), a.kt.trans (KT.of b), a.tape.same b⟩
theorem Ste.new {K : PySem.W.Frag} {x : TX} {H H1 : Hp} {l : Addr} {o : HO} (a : Ste K x H H1) (h : H1 l = none) : Ste K x H (upd H1 l o) := a.same (Same.new h)
theorem Ste.refl {K : PySem.W.Frag} {x : TX} {H : Hp} (h : TapeAt K H x) : Ste K x H H := ⟨fun _ _ _ e => e, KT.refl H, h⟩
theorem Ste.of {K : PySem.W.Frag} {x : TX} {H H1 : Hp} (h : TapeAt K H x) (b : Same H H1) : Ste K x H H1 := (Ste.refl h).same b
/-- an object that was not there at first may be written -/
theorem Ste.put {K : PySem.W.Frag} {x : TX} {H H' : Hp} {l : Addr} {o : HO} (h : TapeAt K H x) (a : Ste K x H H') (n : H l = none) : Ste K x H (upd H' l o) := by
  obtain ⟨p, r, s, h1, h2, h3, h4⟩ := h
  obtain ⟨p', r', s', k1, k2, k3, k4⟩ := a.tape
  refine ⟨a.but.put n, fun b u e k => (upd_ne (ne_of_none e n)).trans (a.kt b u e k), p', r', s', (upd_ne (ne_of_none h1 n)).trans k1, ?_, k3, k4⟩
  rcases h2 with (h2 | ⟨z, h2⟩) | h2
  · exact .inl (.inl ((upd_ne (ne_of_none h2 n)).trans (a.but _ _ h3 h2)))
  · exact .inl (.inr ⟨z, (upd_ne (ne_of_none h2 n)).trans (a.but _ _ h3 h2)⟩)
  · exact .inr h2
theorem Ste.at {K : PySem.W.Frag} {x : TX} {H H' : Hp} {b : Addr} {o : HO} (a : Ste K x H H') (n : b ≠ x.t) (h : H b = some o) : H' b = some o := a.but b o n h
theorem Ste.dp {K : PySem.W.Frag} {x : TX} {H H' : Hp} {v : V} {d : PyData} (a : Ste K x H H') (n : noL d = true) (h : Dp K H v d) : Dp K H' v d := dp_keep a.kt n h
def spNext (K : PySem.W.Frag) : Sp := fun vs H Q _ => ∃ (x : TX) (m : Int), vs = [.ref x.t, .int m] ∧ TapeAt K H x ∧ 0 < m ∧ m < 1073741824 ∧ ∀ (i : Int) (H' : Hp), 0 ≤ i → i < m → Ste K x H H' → Q (.int i) H'
theorem ste_put {K : PySem.W.Frag} {x : TX} {H : Hp} {xs : List V} (hT : TapeAt K H x) (hT' : TapeAt K (upd H x.t (.lst xs)) x) : Ste K x H (upd H x.t (.lst xs)) := by
  obtain ⟨p, r, s, h1, h2, h3, h4⟩ := id hT
  exact ⟨fun b o n e => (upd_ne n).trans e, KT.lst h1, hT'⟩
/-! ### a few shapes -/
theorem noL_c {d : PyData} {ds : List PyData} (h : noL d = true) (k : noLs ds = true) : noLs (d :: ds) = true := by simp only [noLs, h, k, Bool.and_self]
theorem noL_n : noLs [] = true := by simp only [noLs]
theorem noL_t {ds : List PyData} (h : noLs ds = true) : noL (.tuple ds) = true := by simp only [noL, h]
theorem noL_i (i : Int) : noL (.int i) = true := by simp only [noL]
theorem noL_s (z : Str) : noL (.str z) = true := by simp only [noL]
theorem noL_b (b : Bool) : noL (.bool b) = true := by simp only [noL]
theorem noL_0 : noL .none = true := by simp only [noL]
theorem noLs_mem : ∀ {ds : List PyData}, noLs ds = true → ∀ d ∈ ds, noL d = true
  | [], _, _, h => absurd h List.not_mem_nil
  | d :: ds, h, x, hx => by
    simp only [noLs, Bool.and_eq_true] at h
    rcases List.mem_cons.mp hx with rfl | hx
    · exact h.1
    · exact noLs_mem h.2 x hx
end Tk
/-! Areas and calls as data: which tuples are some. -/
namespace Arr
open PySem PySem.Spec PyProof.Rows L2 Dk Wk
def rangeD (f p : PyData) (n : Int) : Bool := match f, p with
  | .int i, .int j => decide (0 ≤ i ∧ i < n ∧ 1 ≤ j ∧ i + j ≤ n)
  | _, _ => false
def sourceD (s p : PyData) : Bool := match s with
  | .none => true
  | .tuple [x, y] => belowD x 2 && rangeD y p 4
  | _ => false
def rightsD (r : PyData) : Bool := isS r "r" || isS r "rw"
def areaD : PyData → Bool
  | .tuple [f, p, r, s] => rangeD f p 8 && rightsD r && sourceD s p
  | _ => false
theorem tup4 {d : PyData} (h : tupD d 4 = true) : ∃ x y z u, d = .tuple [x, y, z, u] := by
  cases d with
  | tuple ds =>
    match ds, h with
    | [x, y, z, u], _ => exact ⟨x, y, z, u, rfl⟩
    | [], h => simp [tupD] at h
    | [x], h => simp [tupD] at h
    | [x, y], h => simp [tupD] at h
    | [x, y, z], h => simp [tupD] at h
    | x :: y :: z :: u :: v :: r, h =>
      simp only [tupD, List.length_cons, decide_eq_true_eq] at h
      omega
  | _ => simp [tupD] at h
theorem area_no {d : PyData} (h : tupD d 4 = false) : areaD d = false := by
  unfold areaD
  split
  · simp [tupD] at h
  · rfl
theorem source_no {d p : PyData} (n : d ≠ .none) (h : tupD d 2 = false) : sourceD d p = false := by
  unfold sourceD
  split
  · exact absurd rfl n
  · simp [tupD] at h
  · rfl
theorem range_f {f p : PyData} {n : Int} (h : belowD f n = false) : rangeD f p n = false := by
  unfold rangeD
  split
  · rename_i i j
    simp only [belowD, Bool.and_eq_false_iff, decide_eq_false_iff_not] at h
    rw [decide_eq_false_iff_not]
    omega
  · rfl
theorem range_p {f p : PyData} {n : Int} (h : wholeD p = false) : rangeD f p n = false := by
  unfold rangeD
  split
  · cases h
  · rfl
theorem whole_int {d : PyData} (h : wholeD d = true) : ∃ i, d = .int i := by
  cases d with
  | int i => exact ⟨i, rfl⟩
  | _ => cases h
theorem eqv_str' (d : PyData) (z : Str) : PyData.eqv (.str z) d = isS d z := by
  cases d with
  | str y =>
    simp only [PyData.eqv, isS]
    rw [Bool.eq_iff_iff, beq_iff_eq, beq_iff_eq]
    exact eq_comm
  | _ => simp only [PyData.eqv, isS]
theorem rights_str {d : PyData} (h : rightsD d = true) : ∃ z, d = .str z := by
  unfold rightsD at h
  rw [Bool.or_eq_true] at h
  rcases h with h | h <;> exact ⟨_, isS_iff.mp h⟩
def inD (d : PyData) (l h : Int) : Bool := match d with
  | .int i => decide (l ≤ i) && decide (i ≤ h)
  | _ => false
theorem in_below (d : PyData) (n : Int) : inD d 0 (n - 1) = belowD d n := by
  cases d with
  | int i =>
    simp only [inD, belowD]
    congr 1
    rw [decide_eq_decide]
    omega
  | _ => rfl
def spRange (K : PySem.W.Frag) : Sp := fun vs H Q _ => ∃ (v u : V) (d e : PyData) (n : Int), vs = [v, u, .int n] ∧ Dp K H v d ∧ Dp K H u e ∧ Q (.bl (rangeD d e n)) H
def spSource (K : PySem.W.Frag) : Sp := fun vs H Q _ => ∃ (v u : V) (d e : PyData), vs = [v, u] ∧ Dp K H v d ∧ Dp K H u e ∧ Q (.bl (sourceD d e)) H
def spArea (K : PySem.W.Frag) : Sp := fun vs H Q _ => ∃ (v : V) (d : PyData), vs = [v] ∧ Dp K H v d ∧ Sh 60 d ∧ ∀ H', Same H H' → Q (.bl (areaD d)) H'
def spIn (K : PySem.W.Frag) : Sp := fun vs H Q _ => ∃ (v : V) (d : PyData) (l h : Int), vs = [v, .int l, .int h] ∧ Dp K H v d ∧ Q (.bl (inD d l h)) H
def spRights (K : PySem.W.Frag) : Sp := fun vs H Q _ => ∃ (v : V) (d : PyData), vs = [v] ∧ Dp K H v d ∧ ∀ H', Same H H' → Q (.bl (rightsD d)) H'
theorem in_rights (z : Str) : inV (.str z) [.str "r", .str "rw"] = rightsD (.str z) := by
  have e : ∀ y : Str, eqV (.str y) (.str z) = (z == y) := fun y => by
    show (y == z) = (z == y)
    rw [Bool.eq_iff_iff, beq_iff_eq, beq_iff_eq]
    exact eq_comm
  show (eqV (.str "r") (.str z) || (eqV (.str "rw") (.str z) || false)) = ((z == "r") || (z == "rw"))
  rw [e, e, Bool.or_false]
/-! ### calls -/
inductive Kd where
  | load | store | change | map | unmap | protect | begin | fork | «end» | evict | sync
  deriving DecidableEq
def Kd.nm : Kd → Str
  | .load => "load"
  | .store => "store"
  | .change => "change"
  | .map => "map"
  | .unmap => "unmap"
  | .protect => "protect"
  | .begin => "begin"
  | .fork => "fork"
  | .«end» => "end"
  | .evict => "evict"
  | .sync => "sync"
def Kd.len : Kd → Nat
  | .load => 3
  | .store => 4
  | .change => 5
  | .map => 5
  | .unmap => 3
  | .protect => 4
  | .begin => 0
  | .fork => 1
  | .«end» => 1
  | .evict => 0
  | .sync => 1
def kindOf (z : Str) : Option Kd := if z = "load" then some .load else if z = "store" then some .store else if z = "change" then some .change else if z = "map" then some .map else if z = "unmap" then some .unmap else if z = "protect" then some .protect else
  if z = "begin" then some .begin else if z = "fork" then some .fork else if z = "end" then some .«end» else if z = "evict" then some .evict else if z = "sync" then some .sync else none
theorem kind_nm (k : Kd) : kindOf k.nm = some k := by cases k <;> decide +kernel
theorem nm_kind {z : Str} {k : Kd} (h : kindOf z = some k) : z = k.nm := by
  unfold kindOf at h
  repeat' split at h
  all_goals first | (cases h; assumption) | cases h
def placeB (s p i : PyData) : Bool := belowD s 4 && (belowD p 8 && belowD i 2)
def callB : Kd → List PyData → Bool
  | .load, [s, p, i] => placeB s p i
  | .store, [s, p, i, v] => placeB s p i && wholeD v
  | .change, [s, p, i, v, u] => placeB s p i && (wholeD v && wholeD u)
  | .map, [s, f, p, r, o] => belowD s 4 && areaD (.tuple [f, p, r, o])
  | .unmap, [s, f, p] => belowD s 4 && rangeD f p 8
  | .protect, [s, f, p, r] => belowD s 4 && areaD (.tuple [f, p, r, .none])
  | .begin, [] => true
  | .fork, [s] => belowD s 4
  | .«end», [s] => belowD s 4
  | .evict, [] => true
  | .sync, [f] => belowD f 2
  | _, _ => false
def callD : PyData → Bool
  | .tuple (.str z :: r) => match kindOf z with
    | some k => callB k r
    | none => false
  | _ => false
theorem callB_len {k : Kd} {r : List PyData} (h : r.length ≠ k.len) : callB k r = false := by
  unfold callB
  split
  all_goals first | exact absurd rfl h | rfl
theorem call_nm (k : Kd) (r : List PyData) : callD (.tuple (.str k.nm :: r)) = callB k r := by
  show (match kindOf k.nm with | some k => callB k r | none => false) = _
  rw [kind_nm]
theorem call_none {ds : List PyData} (h : ∀ (k : Kd) (r : List PyData), ds = .str k.nm :: r → r.length ≠ k.len) : callD (.tuple ds) = false := by
  unfold callD
  split
  · rename_i z r e
    cases e
    split
    · rename_i k e
      have := nm_kind e
      subst this
      exact callB_len (h k r rfl)
    · rfl
  · rfl
def spCall (K : PySem.W.Frag) : Sp := fun vs H Q _ => ∃ (v : V) (d : PyData), vs = [v] ∧ Dp K H v d ∧ Sh 50 d ∧ ∀ H', Same H H' → Q (.bl (callD d)) H'
def spPlace (K : PySem.W.Frag) : Sp := fun vs H Q _ => ∃ (v u t : V) (d e f : PyData), vs = [v, u, t] ∧ Dp K H v d ∧ Dp K H u e ∧ Dp K H t f ∧ Q (.bl (placeB d e f)) H
def spSpace (K : PySem.W.Frag) : Sp := fun vs H Q _ => ∃ (v : V) (d : PyData), vs = [v] ∧ Dp K H v d ∧ Q (.bl (belowD d 4)) H
def spDue (K : PySem.W.Frag) : Sp := fun vs H Q _ => ∃ (v : V) (ds : List PyData), vs = [v] ∧ Dp K H v (.tuple ds) ∧ Sh 50 (.tuple ds) ∧ ∀ H', Same H H' → Q (.bl (callD (.tuple ds))) H'
def spArea2 (K : PySem.W.Frag) : Sp := fun vs H Q _ => ∃ (v : V) (ds : List PyData), vs = [v] ∧ Dp K H v (.tuple ds) ∧ ∀ H', Same H H' → Q (.bl (areaD (.tuple ds))) H'
def spInts (K : PySem.W.Frag) : Sp := fun vs H Q _ => ∃ (v : V) (ds : List PyData), vs = [v] ∧ Dp K H v (.tuple ds) ∧ Q (.bl (ds.all wholeD)) H
def sizesL : List (Key × V) := [(.inr "load", .int 4), (.inr "store", .int 5), (.inr "change", .int 6), (.inr "map", .int 6), (.inr "unmap", .int 4), (.inr "protect", .int 5), (.inr "begin", .int 1), (.inr "fork", .int 2), (.inr "end", .int 2)]
theorem sizes_put : putK (putK (mergeK [] sizesL) (.inr "evict") (.int 1)) (.inr "sync") (.int 2) = sizesL ++ [(.inr "evict", .int 1), (.inr "sync", .int 2)] := by rfl
theorem sizes_at (z : Str) : valV (sizesL ++ [(.inr "evict", .int 1), (.inr "sync", .int 2)]) (Sum.inr z) = (kindOf z).map fun k => V.int (k.len + 1) := by
  have neg : ∀ {x : Str} {v : V} {l : List (Key × V)}, ¬ z = x → valV ((.inr x, v) :: l) (Sum.inr z) = valV l (Sum.inr z) := fun h => valV_neg (fun e => h (Sum.inr.inj e).symm)
  have pos : ∀ {x : Str} {v : V} {l : List (Key × V)}, z = x → valV ((.inr x, v) :: l) (Sum.inr z) = some v := fun h => valV_pos (by rw [h])
  show valV (((.inr "load", .int 4) :: (.inr "store", .int 5) :: (.inr "change", .int 6) :: (.inr "map", .int 6) :: (.inr "unmap", .int 4) :: (.inr "protect", .int 5) :: (.inr "begin", .int 1) :: (.inr "fork", .int 2) :: (.inr "end", .int 2) :: (.inr "evict", .int 1) :: [(.inr "sync", .int 2)] : List (Key × V))) (Sum.inr z) = _
  unfold kindOf
  iterate 11 (split; (rename_i e; rw [pos e]; rfl); rename_i e; rw [neg e])
  rfl
end Arr
/-! Loops and comprehensions over enumerate(list), zip of two tuples. -/
namespace Lk
open PySem PySem.Spec PyProof.Rows L2 RZ
theorem for_enum {K : PySem.W.Frag} {a : Addr} {xs : List V} {g : TG} {tb : TS} {D : Ends} {σ : L2.St} {H : Hp} (Pv : Nat → L2.St → Hp → Prop) (h0 : Pv 0 σ H) (hq : ∀ i σ H, Pv i σ H → SqL K H a xs)
    (hs : ∀ (i : Nat) (x : V) (T : Addr) (σ : L2.St) (H : Hp), xs[i]? = some x → Pv i σ H → H T = none → g (.ref T) σ (upd H T (.tup [.int (i : Nat), x])) fun σ2 H2 => tb { D with nx := Pv (i + 1), ct := Pv (i + 1), bk := D.nx } σ2 H2) (hd : ∀ σ H, Pv xs.length σ H → D.nx σ H) :
    ∃ W : Nat → Nat → L2.St → Hp → Prop, (∃ m, W 0 m σ H) ∧ ∀ i m σ H, W i m σ H →
      ((Ite K a).stop i H ∧ D.nx σ H) ∨ ((Ite K a).go i H ∧ ∃ N : L2.St → Hp → Prop, (∀ σ' H', N σ' H' → ∃ m', m' < m ∧ W (i + 1) m' σ' H') ∧ ∀ v H', (Ite K a).yld i H v H' → g v σ H' fun σ2 H2 => tb { D with nx := N, ct := N, bk := D.nx } σ2 H2) := by
  refine ⟨fun i m σ H => m = xs.length - i ∧ i ≤ xs.length ∧ Pv i σ H, ⟨xs.length, rfl, Nat.zero_le _, h0⟩, ?_⟩
  rintro i m σ H ⟨rfl, hi, p⟩
  have qx := hq i σ H p
  by_cases hlt : i < xs.length
  · have hx : xs[i]? = some xs[i] := List.getElem?_eq_getElem hlt
    refine .inr ⟨⟨xs, _, qx, hx⟩, Pv (i + 1), fun σ' H' p' => ⟨xs.length - (i + 1), by omega, rfl, hlt, p'⟩, fun v H' y => ?_⟩
    obtain ⟨T, x', rfl, hT, rfl, f1⟩ := y
    exact hs i x' T σ H (f1 xs qx) p hT
  · have e : i = xs.length := by omega
    subst e
    exact .inl ⟨⟨xs, qx, Nat.le_refl _⟩, hd σ H p⟩
theorem lc_enum {K : PySem.W.Frag} {a : Addr} {xs : List V} {g : TG} {tt : TT} {te : TE} {vs : List Nat} {σ : L2.St} {H1 : Hp} {D : Addr} {Qd : Hp → Prop} (Pv : Nat → Hp → Prop) (h0 : Pv 0 (upd H1 D (.lst []))) (hl : ∀ i H, i ≤ xs.length → Pv i H → SqL K H a xs)
    (hs : ∀ (i : Nat) (x : V) (T : Addr) (H : Hp), xs[i]? = some x → Pv i H → H T = none → g (.ref T) (wipe σ vs) (upd H T (.tup [.int (i : Nat), x])) fun σ2 H2 => wipe σ2 vs = wipe σ vs ∧ tt σ2 H2 fun b H3 =>
      if b = true then te σ2 H3 fun y H4 => ∃ acc, H4 D = some (.lst acc) ∧ acc.length < sizeLine ∧ Pv (i + 1) (upd H4 D (.lst (acc ++ [y]))) else Pv (i + 1) H3) (hd : ∀ H, Pv xs.length H → Qd H) :
    ∃ W : Nat → Nat → Hp → Prop, (∃ m, W 0 m (upd H1 D (.lst []))) ∧ ∀ i m H, W i m H →
      ((Ite K a).stop i H ∧ Qd H) ∨ ((Ite K a).go i H ∧ ∃ Nx : Hp → Prop, (∀ H', Nx H' → ∃ m', m' < m ∧ W (i + 1) m' H') ∧ ∀ x H', (Ite K a).yld i H x H' → g x (wipe σ vs) H' fun σ2 H2 => wipe σ2 vs = wipe σ vs ∧ tt σ2 H2 fun b H3 =>
        if b = true then te σ2 H3 fun y H4 => ∃ acc, H4 D = some (.lst acc) ∧ acc.length < sizeLine ∧ Nx (upd H4 D (.lst (acc ++ [y]))) else Nx H3) := by
  refine ⟨fun i m H => m = xs.length - i ∧ i ≤ xs.length ∧ Pv i H, ⟨xs.length, by simp, Nat.zero_le _, h0⟩, ?_⟩
  rintro i m H ⟨rfl, hi, p⟩
  have q := hl i H hi p
  by_cases hlt : i < xs.length
  · refine .inr ⟨⟨xs, xs[i], q, by simp [hlt]⟩, Pv (i + 1), fun H' p' => ⟨xs.length - (i + 1), by omega, rfl, hlt, p'⟩, fun x H' y => ?_⟩
    obtain ⟨T, x', rfl, hT, rfl, f1⟩ := y
    exact hs i x' T _ (f1 xs q) p hT
  · have e : i = xs.length := by omega
    subst e
    exact .inl ⟨⟨xs, q, Nat.le_refl _⟩, hd H p⟩
theorem lc_zipT {K : PySem.W.Frag} {a b : Addr} {xs ys : List V} {g : TG} {tt : TT} {te : TE} {vs : List Nat} {σ : L2.St} {H1 : Hp} {D : Addr} {Qd : Hp → Prop} (he : xs.length = ys.length) (Pv : Nat → Hp → Prop) (h0 : Pv 0 (upd H1 D (.lst []))) (hl : ∀ i H, i ≤ xs.length → Pv i H → SqT K H a xs ∧ SqT K H b ys)
    (hs : ∀ (i : Nat) (x y : V) (T : Addr) (H : Hp), xs[i]? = some x → ys[i]? = some y → Pv i H → H T = none → g (.ref T) (wipe σ vs) (upd H T (.tup [x, y])) fun σ2 H2 => wipe σ2 vs = wipe σ vs ∧ tt σ2 H2 fun b H3 =>
      if b = true then te σ2 H3 fun y H4 => ∃ acc, H4 D = some (.lst acc) ∧ acc.length < sizeLine ∧ Pv (i + 1) (upd H4 D (.lst (acc ++ [y]))) else Pv (i + 1) H3) (hd : ∀ H, Pv xs.length H → Qd H) :
    ∃ W : Nat → Nat → Hp → Prop, (∃ m, W 0 m (upd H1 D (.lst []))) ∧ ∀ i m H, W i m H →
      ((ItzT K a b).stop i H ∧ Qd H) ∨ ((ItzT K a b).go i H ∧ ∃ Nx : Hp → Prop, (∀ H', Nx H' → ∃ m', m' < m ∧ W (i + 1) m' H') ∧ ∀ x H', (ItzT K a b).yld i H x H' → g x (wipe σ vs) H' fun σ2 H2 => wipe σ2 vs = wipe σ vs ∧ tt σ2 H2 fun b H3 =>
        if b = true then te σ2 H3 fun y H4 => ∃ acc, H4 D = some (.lst acc) ∧ acc.length < sizeLine ∧ Nx (upd H4 D (.lst (acc ++ [y]))) else Nx H3) := by
  refine ⟨fun i m H => m = xs.length - i ∧ i ≤ xs.length ∧ Pv i H, ⟨xs.length, by simp, Nat.zero_le _, h0⟩, ?_⟩
  rintro i m H ⟨rfl, hi, p⟩
  obtain ⟨qx, qy⟩ := hl i H hi p
  by_cases hlt : i < xs.length
  · have hlt2 : i < ys.length := by omega
    refine .inr ⟨⟨xs, ys, xs[i], ys[i], qx, qy, by simp [hlt], by simp [hlt2]⟩, Pv (i + 1), fun H' p' => ⟨xs.length - (i + 1), by omega, rfl, hlt, p'⟩, fun x H' y => ?_⟩
    obtain ⟨T, x', y', rfl, hT, rfl, f1, f2⟩ := y
    exact hs i x' y' T _ (f1 xs qx) (f2 ys qy) p hT
  · have e : i = xs.length := by omega
    subst e
    exact .inl ⟨⟨xs, ys, qx, qy, Or.inl (Nat.le_refl _)⟩, hd H p⟩
theorem at_nat {xs : List V} {n : Nat} {x : V} (h : xs[n]? = some x) : atI xs (n : Int) = some x := at_of (j := n) rfl h
theorem ixN_nat {len n : Nat} (h : n < len) : ixN len (n : Int) = some n := by
  unfold ixN
  simp [seqIndex?]
  omega
end Lk
namespace K14
open PySem L2 Dk Ek Nk Wk Mc Md Tk Arr
def top (i : Nat) : Stmt := PySem.Challenge.pw_frametally_k14_what_is_an_area_and_a_cal.main.body.getD i (.Pass ⟨0, 0, 0, 0⟩)
abbrev s_is_whole : Stmt := top 3
abbrev s_is_number_below : Stmt := top 4
abbrev s_is_tuple_of : Stmt := top 5
abbrev s_is_range_below : Stmt := top 10
abbrev s_is_source : Stmt := top 11
abbrev s_is_area : Stmt := top 12
abbrev s_is_space : Stmt := top 14
abbrev s_is_place : Stmt := top 15
abbrev s_is_call : Stmt := top 16
abbrev s__law_next : Stmt := top 18
abbrev s__law_call : Stmt := top 19
abbrev s__law_bent : Stmt := top 20
abbrev s__law_in : Stmt := top 21
abbrev s__law_range : Stmt := top 22
abbrev s__law_source : Stmt := top 23
abbrev s__law_rights : Stmt := top 24
abbrev s__law_integers : Stmt := top 25
abbrev s__law_due : Stmt := top 26
abbrev s__law_area : Stmt := top 27
abbrev s_law : Stmt := top 28
theorem sc_is_whole : FnScope ["value"] ["value"] (defScope s_is_whole) := ⟨rfl, rfl, rfl, by decide +kernel, rfl, by decide +kernel, by decide +kernel⟩
theorem sc_is_number_below : FnScope ["value", "many"] ["value", "many"] (defScope s_is_number_below) := ⟨rfl, rfl, rfl, by decide +kernel, rfl, by decide +kernel, by decide +kernel⟩
theorem sc_is_tuple_of : FnScope ["value", "many"] ["value", "many"] (defScope s_is_tuple_of) := ⟨rfl, rfl, rfl, by decide +kernel, rfl, by decide +kernel, by decide +kernel⟩
theorem sc_is_range_below : FnScope ["first", "pages", "many"] ["first", "pages", "many"] (defScope s_is_range_below) := ⟨rfl, rfl, rfl, by decide +kernel, rfl, by decide +kernel, by decide +kernel⟩
theorem sc_is_source : FnScope ["value", "pages", "file", "file_page"] ["value", "pages"] (defScope s_is_source) := ⟨rfl, rfl, rfl, by decide +kernel, rfl, by decide +kernel, by decide +kernel⟩
theorem sc_is_area : FnScope ["value", "first", "pages", "rights", "source"] ["value"] (defScope s_is_area) := ⟨rfl, rfl, rfl, by decide +kernel, rfl, by decide +kernel, by decide +kernel⟩
theorem sc_is_space : FnScope ["value"] ["value"] (defScope s_is_space) := ⟨rfl, rfl, rfl, by decide +kernel, rfl, by decide +kernel, by decide +kernel⟩
theorem sc_is_place : FnScope ["space", "page", "index"] ["space", "page", "index"] (defScope s_is_place) := ⟨rfl, rfl, rfl, by decide +kernel, rfl, by decide +kernel, by decide +kernel⟩
theorem sc_is_call : FnScope ["value", "space", "page", "index", "new", "old", "first", "pages", "rights", "source", "file"] ["value"] (defScope s_is_call) := ⟨rfl, rfl, rfl, by decide +kernel, rfl, by decide +kernel, by decide +kernel⟩
theorem sc__law_next : FnScope ["tape", "many", "rest", "cell"] ["tape", "many"] (defScope s__law_next) := ⟨rfl, rfl, rfl, by decide +kernel, rfl, by decide +kernel, by decide +kernel⟩
theorem sc__law_call : FnScope ["tape", "spaces", "kind", "space", "page", "pages", "source"] ["tape", "spaces"] (defScope s__law_call) := ⟨rfl, rfl, rfl, by decide +kernel, rfl, by decide +kernel, by decide +kernel⟩
theorem sc__law_bent : FnScope ["tape", "value", "parts", "others", "way", "place"] ["tape", "value"] (defScope s__law_bent) := ⟨rfl, rfl, rfl, by decide +kernel, rfl, by decide +kernel, by decide +kernel⟩
theorem sc__law_in : FnScope ["value", "low", "high"] ["value", "low", "high"] (defScope s__law_in) := ⟨rfl, rfl, rfl, by decide +kernel, rfl, by decide +kernel, by decide +kernel⟩
theorem sc__law_range : FnScope ["first", "pages", "many"] ["first", "pages", "many"] (defScope s__law_range) := ⟨rfl, rfl, rfl, by decide +kernel, rfl, by decide +kernel, by decide +kernel⟩
theorem sc__law_source : FnScope ["source", "pages"] ["source", "pages"] (defScope s__law_source) := ⟨rfl, rfl, rfl, by decide +kernel, rfl, by decide +kernel, by decide +kernel⟩
theorem sc__law_rights : FnScope ["value"] ["value"] (defScope s__law_rights) := ⟨rfl, rfl, rfl, by decide +kernel, rfl, by decide +kernel, by decide +kernel⟩
theorem sc__law_integers : FnScope ["values", "value"] ["values"] (defScope s__law_integers) := ⟨rfl, rfl, rfl, by decide +kernel, rfl, by decide +kernel, by decide +kernel⟩
theorem sc__law_due : FnScope ["call", "sizes", "kind"] ["call"] (defScope s__law_due) := ⟨rfl, rfl, rfl, by decide +kernel, rfl, by decide +kernel, by decide +kernel⟩
theorem sc__law_area : FnScope ["value"] ["value"] (defScope s__law_area) := ⟨rfl, rfl, rfl, by decide +kernel, rfl, by decide +kernel, by decide +kernel⟩
theorem sc_law : FnScope ["script", "tape", "turn", "call", "told", "first", "pages", "source", "area"] ["script"] (defScope s_law) := ⟨rfl, rfl, rfl, by decide +kernel, rfl, by decide +kernel, by decide +kernel⟩
structure Ad where
  (f_is_whole f_is_number_below f_is_tuple_of f_is_range_below f_is_source f_is_area f_is_space f_is_place f_is_call f__law_next f__law_call f__law_bent f__law_in f__law_range f__law_source f__law_rights f__law_integers f__law_due f__law_area f_law : Addr)
  (d_is_whole d_is_number_below d_is_tuple_of d_is_range_below d_is_source d_is_area d_is_space d_is_place d_is_call d__law_next d__law_call d__law_bent d__law_in d__law_range d__law_source d__law_rights d__law_integers d__law_due d__law_area d_law : FuncData)
structure Txt (K : PySem.W.Frag) (mg : Str → Option Value) (a : Ad) : Prop where
  F_is_whole : Fun K "is_whole" "is_whole" s_is_whole a.f_is_whole a.d_is_whole
  B_is_whole : Binds K a.d_is_whole ["value"] []
  m_is_whole : mg "is_whole" = some (.ref a.f_is_whole)
  F_is_number_below : Fun K "is_number_below" "is_number_below" s_is_number_below a.f_is_number_below a.d_is_number_below
  B_is_number_below : Binds K a.d_is_number_below ["value", "many"] []
  m_is_number_below : mg "is_number_below" = some (.ref a.f_is_number_below)
  F_is_tuple_of : Fun K "is_tuple_of" "is_tuple_of" s_is_tuple_of a.f_is_tuple_of a.d_is_tuple_of
  B_is_tuple_of : Binds K a.d_is_tuple_of ["value", "many"] []
  m_is_tuple_of : mg "is_tuple_of" = some (.ref a.f_is_tuple_of)
  F_is_range_below : Fun K "is_range_below" "is_range_below" s_is_range_below a.f_is_range_below a.d_is_range_below
  B_is_range_below : Binds K a.d_is_range_below ["first", "pages", "many"] []
  m_is_range_below : mg "is_range_below" = some (.ref a.f_is_range_below)
  F_is_source : Fun K "is_source" "is_source" s_is_source a.f_is_source a.d_is_source
  B_is_source : Binds K a.d_is_source ["value", "pages"] []
  m_is_source : mg "is_source" = some (.ref a.f_is_source)
  F_is_area : Fun K "is_area" "is_area" s_is_area a.f_is_area a.d_is_area
  B_is_area : Binds K a.d_is_area ["value"] []
  m_is_area : mg "is_area" = some (.ref a.f_is_area)
  F_is_space : Fun K "is_space" "is_space" s_is_space a.f_is_space a.d_is_space
  B_is_space : Binds K a.d_is_space ["value"] []
  m_is_space : mg "is_space" = some (.ref a.f_is_space)
  F_is_place : Fun K "is_place" "is_place" s_is_place a.f_is_place a.d_is_place
  B_is_place : Binds K a.d_is_place ["space", "page", "index"] []
  m_is_place : mg "is_place" = some (.ref a.f_is_place)
  F_is_call : Fun K "is_call" "is_call" s_is_call a.f_is_call a.d_is_call
  B_is_call : Binds K a.d_is_call ["value"] []
  m_is_call : mg "is_call" = some (.ref a.f_is_call)
  F__law_next : Fun K "_law_next" "_law_next" s__law_next a.f__law_next a.d__law_next
  B__law_next : Binds K a.d__law_next ["tape", "many"] []
  m__law_next : mg "_law_next" = some (.ref a.f__law_next)
  F__law_call : Fun K "_law_call" "_law_call" s__law_call a.f__law_call a.d__law_call
  B__law_call : Binds K a.d__law_call ["tape", "spaces"] []
  m__law_call : mg "_law_call" = some (.ref a.f__law_call)
  F__law_bent : Fun K "_law_bent" "_law_bent" s__law_bent a.f__law_bent a.d__law_bent
  B__law_bent : Binds K a.d__law_bent ["tape", "value"] []
  m__law_bent : mg "_law_bent" = some (.ref a.f__law_bent)
  F__law_in : Fun K "_law_in" "_law_in" s__law_in a.f__law_in a.d__law_in
  B__law_in : Binds K a.d__law_in ["value", "low", "high"] []
  m__law_in : mg "_law_in" = some (.ref a.f__law_in)
  F__law_range : Fun K "_law_range" "_law_range" s__law_range a.f__law_range a.d__law_range
  B__law_range : Binds K a.d__law_range ["first", "pages", "many"] []
  m__law_range : mg "_law_range" = some (.ref a.f__law_range)
  F__law_source : Fun K "_law_source" "_law_source" s__law_source a.f__law_source a.d__law_source
  B__law_source : Binds K a.d__law_source ["source", "pages"] []
  m__law_source : mg "_law_source" = some (.ref a.f__law_source)
  F__law_rights : Fun K "_law_rights" "_law_rights" s__law_rights a.f__law_rights a.d__law_rights
  B__law_rights : Binds K a.d__law_rights ["value"] []
  m__law_rights : mg "_law_rights" = some (.ref a.f__law_rights)
  F__law_integers : Fun K "_law_integers" "_law_integers" s__law_integers a.f__law_integers a.d__law_integers
  B__law_integers : Binds K a.d__law_integers ["values"] []
  m__law_integers : mg "_law_integers" = some (.ref a.f__law_integers)
  F__law_due : Fun K "_law_due" "_law_due" s__law_due a.f__law_due a.d__law_due
  B__law_due : Binds K a.d__law_due ["call"] []
  m__law_due : mg "_law_due" = some (.ref a.f__law_due)
  F__law_area : Fun K "_law_area" "_law_area" s__law_area a.f__law_area a.d__law_area
  B__law_area : Binds K a.d__law_area ["value"] []
  m__law_area : mg "_law_area" = some (.ref a.f__law_area)
  F_law : Fun K "law" "law" s_law a.f_law a.d_law
  B_law : Binds K a.d_law ["script"] []
  m_law : mg "law" = some (.ref a.f_law)
  k_CELLS : ∃ u, mg "CELLS" = some u ∧ RelV (.int 2) u
  k_FILES : ∃ u, mg "FILES" = some u ∧ RelV (.int 2) u
  k_FILE_PAGES : ∃ u, mg "FILE_PAGES" = some u ∧ RelV (.int 4) u
  k_PAGES : ∃ u, mg "PAGES" = some u ∧ RelV (.int 8) u
  k_SPACES : ∃ u, mg "SPACES" = some u ∧ RelV (.int 4) u
  b_abs : mg "abs" = none
  b_bool : mg "bool" = none
  b_int : mg "int" = none
  b_isinstance : mg "isinstance" = none
  b_len : mg "len" = none
  b_list : mg "list" = none
  b_max : mg "max" = none
  b_min : mg "min" = none
  b_range : mg "range" = none
  b_str : mg "str" = none
  b_tuple : mg "tuple" = none
section
variable {P : Program} {w : World} {K : PySem.W.Frag} {mg : Str → Option Value} {base : Heap} {a : Ad}
theorem ok_is_whole (T : Txt K mg a) : FnOk P w K mg base CX0 1 a.f_is_whole a.d_is_whole ["value"] (spWhole K) := by
  refine T.F_is_whole.ok sc_is_whole (fun vs H Q E h => ?_) (fun cdv A outer s H vs Q E hr h => ?_)
  · obtain ⟨v, d, rfl, _⟩ := h
    rfl
  · obtain ⟨v, d, rfl, hd, q⟩ := h
    refine ⟨_, (pss_one (ps_ret (pe_and (pe_callB call_isi (by rfl) T.b_isinstance (by decide +kernel) (pa_cons (pv 0) (pa_cons (pe_bltn (v := .ty "int") rfl T.b_int (by decide +kernel) rfl) pa_nil))) (pe_one (pe_not (pe_callB call_isi (by rfl) T.b_isinstance (by decide +kernel) (pa_cons (pv 0) (pa_cons (pe_bltn (v := .ty "bool") rfl T.b_bool (by decide +kernel) rfl) pa_nil)))))))), ?_⟩
    have ty := tyx hd
    refine ⟨_, rfl, _, _, _, _, _, rfl, .ty _, ty, kit_int d, _, rfl, ?_⟩
    cases d with
    | int i => exact iteT ⟨_, rfl, _, _, _, _, _, rfl, .ty _, ty, kit_bool _, _, rfl, q⟩
    | bool b => exact iteT ⟨_, rfl, _, _, _, _, _, rfl, .ty _, ty, kit_bool _, _, rfl, q⟩
    | none => exact iteF q
    | str x => exact iteF q
    | list xs => exact iteF q
    | tuple xs => exact iteF q
    | dict xs => exact iteF q
theorem ok_is_number_below (T : Txt K mg a) : FnOk P w K mg base CX0 2 a.f_is_number_below a.d_is_number_below ["value", "many"] (spBelow K) := by
  refine T.F_is_number_below.ok sc_is_number_below (fun vs H Q E h => ?_) (fun cdv A outer s H vs Q E hr h => ?_)
  · obtain ⟨v, d, n, rfl, _⟩ := h
    rfl
  · obtain ⟨v, d, n, rfl, hd, q⟩ := h
    refine ⟨_, (pss_one (ps_ret (pe_and (pe_call (ok_is_whole T) (hr.mono (by decide)) rfl T.m_is_whole T.F_is_whole.kp T.B_is_whole .nil pass0 (pa_cons (pv 0) pa_nil)) (pe_one (pe_chain (op_le) (op_lt) pe_int (pv 0) (pv 1)))))), ?_⟩
    refine ⟨_, rfl, _, d, rfl, hd, _, rfl, ?_⟩
    cases d with
    | int i =>
      cases hd
      refine iteT ⟨_, rfl, _, _, rfl, rfl, _, rfl, ?_⟩
      refine ite2 (fun c => ?_) (fun c => ?_)
      · refine ⟨_, rfl, _, _, rfl, rfl, ?_⟩
        have e : belowD (.int i) n = decide (i < n) := by simp only [belowD, c, Bool.true_and]
        rw [e] at q
        exact q
      · have e : belowD (.int i) n = false := by simp only [belowD, Bool.eq_false_iff.mpr c, Bool.false_and]
        rw [e] at q
        exact q
    | bool b => exact iteF q
    | none => exact iteF q
    | str x => exact iteF q
    | list xs => exact iteF q
    | tuple xs => exact iteF q
    | dict xs => exact iteF q

theorem ok_is_tuple_of (T : Txt K mg a) : FnOk P w K mg base CX0 1 a.f_is_tuple_of a.d_is_tuple_of ["value", "many"] (spTupOf K) := by
  refine T.F_is_tuple_of.ok sc_is_tuple_of (fun vs H Q E h => ?_) (fun cdv A outer s H vs Q E hr h => ?_)
  · obtain ⟨v, d, n, rfl, _⟩ := h
    rfl
  · obtain ⟨v, d, n, rfl, hd, q⟩ := h
    refine ⟨_, (pss_one (ps_ret (pe_and (pe_callB call_isi (by rfl) T.b_isinstance (by decide +kernel) (pa_cons (pv 0) (pa_cons (pe_bltn (v := .ty "tuple") rfl T.b_tuple (by decide +kernel) rfl) pa_nil))) (pe_one (pe_cmpR (op_eq) (pe_callB call_len_seq (by rfl) T.b_len (by decide +kernel) (pa_cons (pv 0) pa_nil)) (pv 1) (nomark _)))))), ?_⟩
    have ty := tyx hd
    refine ⟨_, rfl, _, _, _, _, _, rfl, .ty _, ty, kit_tup d, _, rfl, ?_⟩
    cases d with
    | tuple ds =>
      cases hd with
      | @tup p xs _ s1 q1 =>
        refine iteT ⟨_, rfl, _, _, rfl, .inr s1, _, rfl, rfl, ?_⟩
        have e : decide (V.int (xs.length : Int) = V.int n) = tupD (.tuple ds) n := by
          simp only [tupD, dpAll_len q1, V.int.injEq]
        rw [e]
        exact q
    | int b => exact iteF q
    | bool b => exact iteF q
    | none => exact iteF q
    | str x => exact iteF q
    | list xs => exact iteF q
    | dict xs => exact iteF q

theorem ok_is_range_below (T : Txt K mg a) : FnOk P w K mg base CX0 3 a.f_is_range_below a.d_is_range_below ["first", "pages", "many"] (spRange K) := by
  refine T.F_is_range_below.ok sc_is_range_below (fun vs H Q E h => ?_) (fun cdv A outer s H vs Q E hr h => ?_)
  · obtain ⟨v, u, d, e, n, rfl, _⟩ := h
    rfl
  · obtain ⟨v, u, d, e, n, rfl, hd, he, q⟩ := h
    refine ⟨_, (pss_one (ps_ret (pe_and (pe_call (ok_is_number_below T) (hr.mono (by decide)) rfl T.m_is_number_below T.F_is_number_below.kp T.B_is_number_below .nil pass0 (pa_cons (pv 0) (pa_cons (pv 2) pa_nil))) (pe_and (pe_call (ok_is_whole T) (hr.mono (by decide)) rfl T.m_is_whole T.F_is_whole.kp T.B_is_whole .nil pass0 (pa_cons (pv 1) pa_nil)) (pe_one (pe_chain (op_le) (op_le) pe_int (pv 1) (pe_op op_sub (pv 2) (pv 0)))))))), ?_⟩
    refine ⟨_, rfl, _, rfl, v, d, n, rfl, hd, _, rfl, ?_⟩
    cases b1 : belowD d n with
    | false =>
      rw [range_f b1] at q
      exact iteF q
    | true =>
      refine iteT ⟨_, rfl, u, e, rfl, he, _, rfl, ?_⟩
      cases b2 : wholeD e with
      | false =>
        rw [range_p b2] at q
        exact iteF q
      | true =>
        obtain ⟨i, rfl⟩ := below_int b1
        obtain ⟨j, rfl⟩ := whole_int b2
        cases hd
        cases he
        simp only [belowD, Bool.and_eq_true, decide_eq_true_eq] at b1
        refine iteT ⟨_, rfl, _, _, rfl, rfl, _, rfl, ?_⟩
        refine ite2 (fun c => ?_) (fun c => ?_)
        · refine ⟨_, rfl, _, rfl, _, _, rfl, rfl, _, _, rfl, rfl, ?_⟩
          have e1 : rangeD (.int i) (.int j) n = decide (j ≤ n - i) := by
            have c2 := of_decide_eq_true c
            simp only [rangeD, decide_eq_decide]
            omega
          rw [e1] at q
          exact q
        · have e1 : rangeD (.int i) (.int j) n = false := by
            simp only [rangeD, decide_eq_false_iff_not]
            have c2 : ¬ (1 : Int) ≤ j := fun h => c (decide_eq_true h)
            omega
          rw [e1] at q
          exact q
theorem ok_is_source (T : Txt K mg a) : FnOk P w K mg base CX0 4 a.f_is_source a.d_is_source ["value", "pages"] (spSource K) := by
  refine T.F_is_source.ok sc_is_source (fun vs H Q E h => ?_) (fun cdv A outer s H vs Q E hr h => ?_)
  · obtain ⟨v, u, d, e, rfl, _⟩ := h
    rfl
  · obtain ⟨v, u, d, e, rfl, hd, he, q⟩ := h
    refine ⟨_, (pss_cons (ps_if (pt_cmpR (op_isN) (pv 0) pe_non (by rfl)) (pss_one (ps_ret pe_bl)) pss_nil)
    (pss_cons (ps_if (pt_not (pt_val (pe_call (ok_is_tuple_of T) (hr.mono (by decide)) rfl T.m_is_tuple_of T.F_is_tuple_of.kp T.B_is_tuple_of .nil pass0 (pa_cons (pv 0) (pa_cons pe_int pa_nil))))) (pss_one (ps_ret pe_bl)) pss_nil)
    (pss_cons (ps_asg (pv 0) (pg_tup rfl (pgs_cons (pg_name (i := 2) sc_is_source.nd rfl (Or.inl rfl)) (pgs_cons (pg_name (i := 3) sc_is_source.nd rfl (Or.inl rfl)) pgs_nil))))
    (pss_one (ps_ret (pe_and (pe_call (ok_is_number_below T) (hr.mono (by decide)) rfl T.m_is_number_below T.F_is_number_below.kp T.B_is_number_below .nil pass0 (pa_cons (pv 2) (pa_cons (pe_con rfl T.k_FILES) pa_nil))) (pe_one (pe_call (ok_is_range_below T) (hr.mono (by decide)) rfl T.m_is_range_below T.F_is_range_below.kp T.B_is_range_below .nil pass0 (pa_cons (pv 3) (pa_cons (pv 1) (pa_cons (pe_con rfl T.k_FILE_PAGES) pa_nil))))))))))), ?_⟩
    refine ⟨_, rfl, rfl, _, rfl, ?_⟩
    have key : d ≠ .none → ∃ b, tupD d 2 = b ∧ True := fun _ => ⟨_, rfl, trivial⟩
    by_cases hn : d = .none
    · subst hn
      cases hd
      exact iteT q
    · have hv : v ≠ .non := fun e => by
        subst e
        cases hd
        exact hn rfl
      refine ifF (by simpa using hv) ⟨_, rfl, v, d, 2, rfl, hd, _, rfl, ?_⟩
      cases b1 : tupD d 2 with
      | false =>
        rw [source_no hn b1] at q
        exact iteT q
      | true =>
        obtain ⟨x, y, rfl⟩ := tup2 b1
        cases hd with
        | @tup t xs _ sT aT =>
        cases aT with
        | @cons v0 _ _ _ d0 aT =>
        cases aT with
        | @cons v1 _ _ _ d1 aT =>
        cases aT
        refine iteF ⟨_, rfl, t, _, rfl, sT, rfl, _, _, rfl, _, _, rfl, rfl, ?_⟩
        refine ⟨_, rfl, v0, x, 2, rfl, d0, _, rfl, ?_⟩
        cases b2 : belowD x 2 with
        | false =>
          have e1 : sourceD (.tuple [x, y]) e = false := by simp only [sourceD, b2, Bool.false_and]
          rw [e1] at q
          exact iteF q
        | true =>
          have e1 : sourceD (.tuple [x, y]) e = rangeD y e 4 := by simp only [sourceD, b2, Bool.true_and]
          rw [e1] at q
          exact iteT ⟨_, rfl, _, rfl, v1, u, y, e, 4, rfl, d1, he, q⟩
theorem ok_is_area (T : Txt K mg a) : FnOk P w K mg base CX0 5 a.f_is_area a.d_is_area ["value"] (spArea K) := by
  refine T.F_is_area.ok sc_is_area (fun vs H Q E h => ?_) (fun cdv A outer s H vs Q E hr h => ?_)
  · obtain ⟨v, d, rfl, _⟩ := h
    rfl
  · obtain ⟨v, d, rfl, hd, sh, q⟩ := h
    refine ⟨_, (pss_cons (ps_if (pt_not (pt_val (pe_call (ok_is_tuple_of T) (hr.mono (by decide)) rfl T.m_is_tuple_of T.F_is_tuple_of.kp T.B_is_tuple_of .nil pass0 (pa_cons (pv 0) (pa_cons pe_int pa_nil))))) (pss_one (ps_ret pe_bl)) pss_nil)
    (pss_cons (ps_asg (pv 0) (pg_tup rfl (pgs_cons (pg_name (i := 1) sc_is_area.nd rfl (Or.inl rfl)) (pgs_cons (pg_name (i := 2) sc_is_area.nd rfl (Or.inl rfl)) (pgs_cons (pg_name (i := 3) sc_is_area.nd rfl (Or.inl rfl)) (pgs_cons (pg_name (i := 4) sc_is_area.nd rfl (Or.inl rfl)) pgs_nil))))))
    (pss_cons (ps_if (PW.pt (pw_or (pt_not (pt_val (pe_call (ok_is_range_below T) (hr.mono (by decide)) rfl T.m_is_range_below T.F_is_range_below.kp T.B_is_range_below .nil pass0 (pa_cons (pv 1) (pa_cons (pv 2) (pa_cons (pe_con rfl T.k_PAGES) pa_nil)))))) (pw_or1 (pt_cmpR (op_niD (hu65 hr)) (pv 3) (pe_tup (pa_cons pe_str (pa_cons pe_str pa_nil))) rfl)))) (pss_one (ps_ret pe_bl)) pss_nil)
    (pss_one (ps_ret (pe_call (ok_is_source T) (hr.mono (by decide)) rfl T.m_is_source T.F_is_source.kp T.B_is_source .nil pass0 (pa_cons (pv 4) (pa_cons (pv 2) pa_nil)))))))), ?_⟩
    refine ⟨_, rfl, v, d, 4, rfl, hd, _, rfl, ?_⟩
    cases b1 : tupD d 4 with
    | false =>
      rw [area_no b1] at q
      exact iteT (q H (Same.refl H))
    | true =>
      obtain ⟨f, p, r, o, rfl⟩ := tup4 b1
      have shr := Wk.Sh.elem sh (d := r) (by simp)
      cases hd with
      | @tup t xs _ sT aT =>
      cases aT with
      | @cons v0 _ _ _ d0 aT =>
      cases aT with
      | @cons v1 _ _ _ d1 aT =>
      cases aT with
      | @cons v2 _ _ _ d2 aT =>
      cases aT with
      | @cons v3 _ _ _ d3 aT =>
      cases aT
      refine iteF ⟨_, rfl, t, _, rfl, sT, rfl, _, _, rfl, _, _, rfl, _, _, rfl, _, _, rfl, rfl, ?_⟩
      refine ⟨_, rfl, _, rfl, v0, v1, f, p, 8, rfl, d0, d1, _, rfl, ?_⟩
      cases b2 : rangeD f p 8 with
      | false =>
        have e1 : areaD (.tuple [f, p, r, o]) = false := by simp only [areaD, b2, Bool.false_and]
        rw [e1] at q
        exact iteT (iteT (q H (Same.refl H)))
      | true =>
        refine iteF ⟨_, rfl, (by show 2 ≤ sizeLine; decide), fun t2 ht2 => ⟨r, [.str "r", .str "rw"], dp_mono (Same.new ht2) d2, .inr (.tup (SqT.of upd_same) (.cons (.str _) (.cons (.str _) .nil))), shr.ok,
          (sh_lst (n := 0) (sh_c (sh_str _ (by decide +kernel)) (sh_c (sh_str _ (by decide +kernel)) sh_n))).ok, _, rfl, ?_⟩⟩
        have e2 : (!([PyData.str "r", .str "rw"].any fun z => PyData.eqv z r)) = !rightsD r := by
          simp only [List.any_cons, List.any_nil, Bool.or_false, eqv_str', rightsD]
        rw [e2]
        cases b3 : rightsD r with
        | false =>
          have e1 : areaD (.tuple [f, p, r, o]) = false := by simp only [areaD, b2, b3, Bool.false_and, Bool.and_false]
          rw [e1] at q
          exact iteT (q _ (Same.new ht2))
        | true =>
          have e1 : areaD (.tuple [f, p, r, o]) = sourceD o p := by simp only [areaD, b2, b3, Bool.true_and]
          rw [e1] at q
          exact iteF ⟨_, rfl, _, rfl, v3, v1, o, p, rfl, dp_mono (Same.new ht2) d3, dp_mono (Same.new ht2) d1, q _ (Same.new ht2)⟩

theorem ok_is_space (T : Txt K mg a) : FnOk P w K mg base CX0 3 a.f_is_space a.d_is_space ["value"] (spSpace K) := by
  refine T.F_is_space.ok sc_is_space (fun vs H Q E h => ?_) (fun cdv A outer s H vs Q E hr h => ?_)
  · obtain ⟨v, d, rfl, _⟩ := h
    rfl
  · obtain ⟨v, d, rfl, hd, q⟩ := h
    refine ⟨_, (pss_one (ps_ret (pe_call (ok_is_number_below T) (hr.mono (by decide)) rfl T.m_is_number_below T.F_is_number_below.kp T.B_is_number_below .nil pass0 (pa_cons (pv 0) (pa_cons (pe_con rfl T.k_SPACES) pa_nil))))), ?_⟩
    exact ⟨_, rfl, v, d, 4, rfl, hd, q⟩
theorem ok_is_place (T : Txt K mg a) : FnOk P w K mg base CX0 4 a.f_is_place a.d_is_place ["space", "page", "index"] (spPlace K) := by
  refine T.F_is_place.ok sc_is_place (fun vs H Q E h => ?_) (fun cdv A outer s H vs Q E hr h => ?_)
  · obtain ⟨v, u, t, d, e, f, rfl, _⟩ := h
    rfl
  · obtain ⟨v, u, t, d, e, f, rfl, hd, he, hf, q⟩ := h
    refine ⟨_, (pss_one (ps_ret (pe_and (pe_call (ok_is_space T) (hr.mono (by decide)) rfl T.m_is_space T.F_is_space.kp T.B_is_space .nil pass0 (pa_cons (pv 0) pa_nil)) (pe_and (pe_call (ok_is_number_below T) (hr.mono (by decide)) rfl T.m_is_number_below T.F_is_number_below.kp T.B_is_number_below .nil pass0 (pa_cons (pv 1) (pa_cons (pe_con rfl T.k_PAGES) pa_nil))) (pe_one (pe_call (ok_is_number_below T) (hr.mono (by decide)) rfl T.m_is_number_below T.F_is_number_below.kp T.B_is_number_below .nil pass0 (pa_cons (pv 2) (pa_cons (pe_con rfl T.k_CELLS) pa_nil)))))))), ?_⟩
    refine ⟨_, rfl, v, d, rfl, hd, _, rfl, ?_⟩
    unfold placeB at q
    cases b1 : belowD d 4 with
    | false =>
      rw [b1] at q
      exact iteF q
    | true =>
      rw [b1] at q
      refine iteT ⟨_, rfl, u, e, 8, rfl, he, _, rfl, ?_⟩
      cases b2 : belowD e 8 with
      | false =>
        rw [b2] at q
        exact iteF q
      | true =>
        rw [b2] at q
        exact iteT ⟨_, rfl, t, f, 2, rfl, hf, q⟩
theorem ok_is_call (T : Txt K mg a) : FnOk P w K mg base CX0 6 a.f_is_call a.d_is_call ["value"] (spCall K) := by
  refine T.F_is_call.ok sc_is_call (fun vs H Q E h => ?_) (fun cdv A outer s H vs Q E hr h => ?_)
  · obtain ⟨v, d, rfl, _⟩ := h
    rfl
  · obtain ⟨v, d, rfl, hd, sh, q⟩ := h
    refine ⟨_, (pss_cons (ps_if (pt_not (pt_val (pe_callB call_isi (by rfl) T.b_isinstance (by decide +kernel) (pa_cons (pv 0) (pa_cons (pe_bltn (v := .ty "tuple") rfl T.b_tuple (by decide +kernel) rfl) pa_nil))))) (pss_one (ps_ret pe_bl)) pss_nil)
    (pss_cons (ps_matchD (pv 0) (pd_cons (is := [1, 2, 3]) hr.units rfl sc_is_call.nd (.cons (i := 1) rfl (Or.inl rfl) (.cons (i := 2) rfl (Or.inl rfl) (.cons (i := 3) rfl (Or.inl rfl) .nil))) (pss_one (ps_ret (pe_call (ok_is_place T) (hr.mono (by decide)) rfl T.m_is_place T.F_is_place.kp T.B_is_place .nil pass0 (pa_cons (pv 1) (pa_cons (pv 2) (pa_cons (pv 3) pa_nil))))))
    (pd_cons (is := [1, 2, 3, 4]) hr.units rfl sc_is_call.nd (.cons (i := 1) rfl (Or.inl rfl) (.cons (i := 2) rfl (Or.inl rfl) (.cons (i := 3) rfl (Or.inl rfl) (.cons (i := 4) rfl (Or.inl rfl) .nil)))) (pss_one (ps_ret (pe_and (pe_call (ok_is_place T) (hr.mono (by decide)) rfl T.m_is_place T.F_is_place.kp T.B_is_place .nil pass0 (pa_cons (pv 1) (pa_cons (pv 2) (pa_cons (pv 3) pa_nil)))) (pe_one (pe_call (ok_is_whole T) (hr.mono (by decide)) rfl T.m_is_whole T.F_is_whole.kp T.B_is_whole .nil pass0 (pa_cons (pv 4) pa_nil))))))
    (pd_cons (is := [1, 2, 3, 5, 4]) hr.units rfl sc_is_call.nd (.cons (i := 1) rfl (Or.inl rfl) (.cons (i := 2) rfl (Or.inl rfl) (.cons (i := 3) rfl (Or.inl rfl) (.cons (i := 5) rfl (Or.inl rfl) (.cons (i := 4) rfl (Or.inl rfl) .nil))))) (pss_one (ps_ret (pe_and (pe_call (ok_is_place T) (hr.mono (by decide)) rfl T.m_is_place T.F_is_place.kp T.B_is_place .nil pass0 (pa_cons (pv 1) (pa_cons (pv 2) (pa_cons (pv 3) pa_nil)))) (pe_and (pe_call (ok_is_whole T) (hr.mono (by decide)) rfl T.m_is_whole T.F_is_whole.kp T.B_is_whole .nil pass0 (pa_cons (pv 5) pa_nil)) (pe_one (pe_call (ok_is_whole T) (hr.mono (by decide)) rfl T.m_is_whole T.F_is_whole.kp T.B_is_whole .nil pass0 (pa_cons (pv 4) pa_nil)))))))
    (pd_cons (is := [1, 6, 7, 8, 9]) hr.units rfl sc_is_call.nd (.cons (i := 1) rfl (Or.inl rfl) (.cons (i := 6) rfl (Or.inl rfl) (.cons (i := 7) rfl (Or.inl rfl) (.cons (i := 8) rfl (Or.inl rfl) (.cons (i := 9) rfl (Or.inl rfl) .nil))))) (pss_one (ps_ret (pe_and (pe_call (ok_is_space T) (hr.mono (by decide)) rfl T.m_is_space T.F_is_space.kp T.B_is_space .nil pass0 (pa_cons (pv 1) pa_nil)) (pe_one (pe_call (ok_is_area T) (hr.mono (by decide)) rfl T.m_is_area T.F_is_area.kp T.B_is_area .nil pass0 (pa_cons (pe_tup (pa_cons (pv 6) (pa_cons (pv 7) (pa_cons (pv 8) (pa_cons (pv 9) pa_nil))))) pa_nil))))))
    (pd_cons (is := [1, 6, 7]) hr.units rfl sc_is_call.nd (.cons (i := 1) rfl (Or.inl rfl) (.cons (i := 6) rfl (Or.inl rfl) (.cons (i := 7) rfl (Or.inl rfl) .nil))) (pss_one (ps_ret (pe_and (pe_call (ok_is_space T) (hr.mono (by decide)) rfl T.m_is_space T.F_is_space.kp T.B_is_space .nil pass0 (pa_cons (pv 1) pa_nil)) (pe_one (pe_call (ok_is_range_below T) (hr.mono (by decide)) rfl T.m_is_range_below T.F_is_range_below.kp T.B_is_range_below .nil pass0 (pa_cons (pv 6) (pa_cons (pv 7) (pa_cons (pe_con rfl T.k_PAGES) pa_nil))))))))
    (pd_cons (is := [1, 6, 7, 8]) hr.units rfl sc_is_call.nd (.cons (i := 1) rfl (Or.inl rfl) (.cons (i := 6) rfl (Or.inl rfl) (.cons (i := 7) rfl (Or.inl rfl) (.cons (i := 8) rfl (Or.inl rfl) .nil)))) (pss_one (ps_ret (pe_and (pe_call (ok_is_space T) (hr.mono (by decide)) rfl T.m_is_space T.F_is_space.kp T.B_is_space .nil pass0 (pa_cons (pv 1) pa_nil)) (pe_one (pe_call (ok_is_area T) (hr.mono (by decide)) rfl T.m_is_area T.F_is_area.kp T.B_is_area .nil pass0 (pa_cons (pe_tup (pa_cons (pv 6) (pa_cons (pv 7) (pa_cons (pv 8) (pa_cons pe_non pa_nil))))) pa_nil))))))
    (pd_cons (is := [1]) hr.units rfl sc_is_call.nd (.cons (i := 1) rfl (Or.inl rfl) .nil) (pss_one (ps_ret (pe_call (ok_is_space T) (hr.mono (by decide)) rfl T.m_is_space T.F_is_space.kp T.B_is_space .nil pass0 (pa_cons (pv 1) pa_nil))))
    (pd_cons (is := [1]) hr.units rfl sc_is_call.nd (.cons (i := 1) rfl (Or.inl rfl) .nil) (pss_one (ps_ret (pe_call (ok_is_space T) (hr.mono (by decide)) rfl T.m_is_space T.F_is_space.kp T.B_is_space .nil pass0 (pa_cons (pv 1) pa_nil))))
    (pd_cons (is := [10]) hr.units rfl sc_is_call.nd (.cons (i := 10) rfl (Or.inl rfl) .nil) (pss_one (ps_ret (pe_call (ok_is_number_below T) (hr.mono (by decide)) rfl T.m_is_number_below T.F_is_number_below.kp T.B_is_number_below .nil pass0 (pa_cons (pv 10) (pa_cons (pe_con rfl T.k_FILES) pa_nil)))))
    (pd_cons (is := []) hr.units rfl sc_is_call.nd .nil (pss_one (ps_ret pe_bl))
    (pd_cons (is := []) hr.units rfl sc_is_call.nd .nil (pss_one (ps_ret pe_bl))
    pd_nil))))))))))))
    (pss_one (ps_ret pe_bl)))), ?_⟩
    have ty := tyx hd
    refine ⟨_, rfl, _, _, _, _, _, rfl, .ty _, ty, kit_tup d, _, rfl, ?_⟩
    cases hd with
    | non => exact iteT (q H (Same.refl H))
    | bl b => exact iteT (q H (Same.refl H))
    | int i => exact iteT (q H (Same.refl H))
    | str x => exact iteT (q H (Same.refl H))
    | lst s1 q1 => exact iteT (q H (Same.refl H))
    | @tup t xs ds sT aT =>
    refine iteF ⟨_, rfl, t, ds, xs, rfl, sT, aT, sh.up (by decide), ?_⟩
    have lead : ∀ (k : Kd) (r : List PyData), ds = .str k.nm :: r → callD (.tuple ds) = callB k r := fun k r e => by
      rw [e]
      exact call_nm k r
    have q0 := q H (Same.refl H)
    -- load
    refine ⟨fun r e l => ?_, fun n1 => ?_⟩
    · rw [lead .load r e] at q0
      subst e
      match r, l with
      | [x, y, z], _ =>
      cases aT with
      | cons _ aT =>
      cases aT with
      | cons d0 aT =>
      cases aT with
      | cons d1 aT =>
      cases aT with
      | cons d2 aT =>
      cases aT
      exact ⟨_, rfl, _, rfl, _, rfl, _, _, _, x, y, z, rfl, d0, d1, d2, q0⟩
    -- store
    refine ⟨fun r e l => ?_, fun n2 => ?_⟩
    · rw [lead .store r e] at q0
      subst e
      match r, l with
      | [x, y, z, u], _ =>
      cases aT with
      | cons _ aT =>
      cases aT with
      | cons d0 aT =>
      cases aT with
      | cons d1 aT =>
      cases aT with
      | cons d2 aT =>
      cases aT with
      | cons d3 aT =>
      cases aT
      have e1 : callB .store [x, y, z, u] = (placeB x y z && wholeD u) := rfl
      rw [e1] at q0
      refine ⟨_, rfl, _, rfl, _, rfl, _, _, _, x, y, z, rfl, d0, d1, d2, _, rfl, ?_⟩
      cases b1 : placeB x y z with
      | false =>
        rw [b1] at q0
        exact iteF q0
      | true =>
        rw [b1] at q0
        exact iteT ⟨_, rfl, _, u, rfl, d3, q0⟩
    -- change
    refine ⟨fun r e l => ?_, fun n3 => ?_⟩
    · rw [lead .change r e] at q0
      subst e
      match r, l with
      | [x, y, z, u, o], _ =>
      cases aT with
      | cons _ aT =>
      cases aT with
      | cons d0 aT =>
      cases aT with
      | cons d1 aT =>
      cases aT with
      | cons d2 aT =>
      cases aT with
      | cons d3 aT =>
      cases aT with
      | cons d4 aT =>
      cases aT
      have e1 : callB .change [x, y, z, u, o] = (placeB x y z && (wholeD u && wholeD o)) := rfl
      rw [e1] at q0
      refine ⟨_, rfl, _, rfl, _, rfl, _, _, _, x, y, z, rfl, d0, d1, d2, _, rfl, ?_⟩
      cases b1 : placeB x y z with
      | false =>
        rw [b1] at q0
        exact iteF q0
      | true =>
        rw [b1] at q0
        refine iteT ⟨_, rfl, _, u, rfl, d3, _, rfl, ?_⟩
        cases b2 : wholeD u with
        | false =>
          rw [b2] at q0
          exact iteF q0
        | true =>
          rw [b2] at q0
          exact iteT ⟨_, rfl, _, o, rfl, d4, q0⟩
    -- map
    refine ⟨fun r e l => ?_, fun n4 => ?_⟩
    · have le := lead .map r e
      subst e
      match r, l with
      | [x, y, z, u, o], _ =>
      have sy := Wk.Sh.elem sh (d := y) (by simp)
      have sz := Wk.Sh.elem sh (d := z) (by simp)
      have su := Wk.Sh.elem sh (d := u) (by simp)
      have so := Wk.Sh.elem sh (d := o) (by simp)
      cases aT with
      | cons _ aT =>
      cases aT with
      | cons d0 aT =>
      cases aT with
      | cons d1 aT =>
      cases aT with
      | cons d2 aT =>
      cases aT with
      | cons d3 aT =>
      cases aT with
      | cons d4 aT =>
      cases aT
      have e1 : callB .map [x, y, z, u, o] = (belowD x 4 && areaD (.tuple [y, z, u, o])) := rfl
      rw [le, e1] at q q0
      refine ⟨_, rfl, _, x, rfl, d0, _, rfl, ?_⟩
      cases b1 : belowD x 4 with
      | false =>
        rw [b1] at q0
        exact iteF q0
      | true =>
        rw [b1] at q
        refine iteT ⟨_, rfl, _, rfl, _, rfl, _, rfl, (by show 4 ≤ sizeLine; decide), fun t2 ht2 => ⟨_, .tuple [y, z, u, o], rfl, ?_, (sh_tup (sh_c sy (sh_c sz (sh_c su (sh_c so sh_n))))).up (by decide), fun H' e' => q H' ((Same.new ht2).trans e')⟩⟩
        exact .tup (SqT.of upd_same) (dpAll_mono (Same.new ht2) (.cons d1 (.cons d2 (.cons d3 (.cons d4 .nil)))))
    -- unmap
    refine ⟨fun r e l => ?_, fun n5 => ?_⟩
    · rw [lead .unmap r e] at q0
      subst e
      match r, l with
      | [x, y, z], _ =>
      cases aT with
      | cons _ aT =>
      cases aT with
      | cons d0 aT =>
      cases aT with
      | cons d1 aT =>
      cases aT with
      | cons d2 aT =>
      cases aT
      have e1 : callB .unmap [x, y, z] = (belowD x 4 && rangeD y z 8) := rfl
      rw [e1] at q0
      refine ⟨_, rfl, _, x, rfl, d0, _, rfl, ?_⟩
      cases b1 : belowD x 4 with
      | false =>
        rw [b1] at q0
        exact iteF q0
      | true =>
        rw [b1] at q0
        exact iteT ⟨_, rfl, _, rfl, _, _, y, z, 8, rfl, d1, d2, q0⟩
    -- protect
    refine ⟨fun r e l => ?_, fun n6 => ?_⟩
    · have le := lead .protect r e
      subst e
      match r, l with
      | [x, y, z, u], _ =>
      have sy := Wk.Sh.elem sh (d := y) (by simp)
      have sz := Wk.Sh.elem sh (d := z) (by simp)
      have su := Wk.Sh.elem sh (d := u) (by simp)
      cases aT with
      | cons _ aT =>
      cases aT with
      | cons d0 aT =>
      cases aT with
      | cons d1 aT =>
      cases aT with
      | cons d2 aT =>
      cases aT with
      | cons d3 aT =>
      cases aT
      have e1 : callB .protect [x, y, z, u] = (belowD x 4 && areaD (.tuple [y, z, u, .none])) := rfl
      rw [le, e1] at q q0
      refine ⟨_, rfl, _, x, rfl, d0, _, rfl, ?_⟩
      cases b1 : belowD x 4 with
      | false =>
        rw [b1] at q0
        exact iteF q0
      | true =>
        rw [b1] at q
        refine iteT ⟨_, rfl, _, rfl, _, rfl, (by show 4 ≤ sizeLine; decide), fun t2 ht2 => ⟨_, .tuple [y, z, u, .none], rfl, ?_, (sh_tup (sh_c sy (sh_c sz (sh_c su (sh_c (sh_none.up (by decide)) sh_n))))).up (by decide), fun H' e' => q H' ((Same.new ht2).trans e')⟩⟩
        exact .tup (SqT.of upd_same) (dpAll_mono (Same.new ht2) (.cons d1 (.cons d2 (.cons d3 (.cons .non .nil)))))
    -- fork
    refine ⟨fun r e l => ?_, fun n7 => ?_⟩
    · rw [lead .fork r e] at q0
      subst e
      match r, l with
      | [x], _ =>
      cases aT with
      | cons _ aT =>
      cases aT with
      | cons d0 aT =>
      cases aT
      exact ⟨_, rfl, _, x, rfl, d0, q0⟩
    -- end
    refine ⟨fun r e l => ?_, fun n8 => ?_⟩
    · rw [lead .«end» r e] at q0
      subst e
      match r, l with
      | [x], _ =>
      cases aT with
      | cons _ aT =>
      cases aT with
      | cons d0 aT =>
      cases aT
      exact ⟨_, rfl, _, x, rfl, d0, q0⟩
    -- sync
    refine ⟨fun r e l => ?_, fun n9 => ?_⟩
    · rw [lead .sync r e] at q0
      subst e
      match r, l with
      | [x], _ =>
      cases aT with
      | cons _ aT =>
      cases aT with
      | cons d0 aT =>
      cases aT
      exact ⟨_, rfl, _, x, 2, rfl, d0, q0⟩
    -- begin
    refine ⟨fun r e l => ?_, fun n10 => ?_⟩
    · rw [lead .begin r e] at q0
      match r, l with
      | [], _ => exact q0
    -- evict
    refine ⟨fun r e l => ?_, fun n11 => ?_⟩
    · rw [lead .evict r e] at q0
      match r, l with
      | [], _ => exact q0
    have e1 : callD (.tuple ds) = false := call_none fun k r e => by
      cases k
      · exact n1 r e
      · exact n2 r e
      · exact n3 r e
      · exact n4 r e
      · exact n5 r e
      · exact n6 r e
      · exact n10 r e
      · exact n7 r e
      · exact n8 r e
      · exact n11 r e
      · exact n9 r e
    rw [e1] at q0
    exact q0

theorem ok__law_next (T : Txt K mg a) : FnOk P w K mg base CX0 1 a.f__law_next a.d__law_next ["tape", "many"] (spNext K) := by
  refine T.F__law_next.ok sc__law_next (fun vs H Q E h => ?_) (fun cdv A outer s H vs Q E hr h => ?_)
  · obtain ⟨x, m, rfl, _⟩ := h
    rfl
  · obtain ⟨⟨t, sp, ns⟩, m, rfl, hT, m0, m1, q⟩ := h
    refine ⟨_, (pss_cons (ps_set (i := 2) sc__law_next.nd rfl (Or.inl rfl) (pe_ix ix_list (pv 0) pe_int (fun _ _ => rfl)))
    (pss_cons (ps_if (pt_cmpR (op_gt) (pv 2) pe_int (nomark _)) (pss_cons (ps_asg (pe_op op_fdiv (pv 2) (pv 1)) (pg_sub (pv 0) pe_int set_list))
    (pss_one (ps_ret (pe_op op_mod (pe_callTy call_int1 (by rfl) T.b_int (by decide +kernel) (pa_cons (pv 2) pa_nil)) (pv 1))))) pss_nil)
    (pss_cons (ps_set (i := 3) sc__law_next.nd rfl (Or.inl rfl) pe_int)
    (pss_mid (ps_if (pt_cmpR (op_lt) (pe_ix ix_list (pv 0) pe_int (fun _ _ => rfl)) (pe_callB call_len_seq (by rfl) T.b_len (by decide +kernel) (pa_cons (pe_ix ix_list (pv 0) pe_int (fun _ _ => rfl)) pa_nil)) (nomark _)) (pss_cons (ps_set (i := 3) sc__law_next.nd rfl (Or.inl rfl) (pe_callB call_abs (by rfl) T.b_abs (by decide +kernel) (pa_cons (pe_ix ix_list (pe_ix ix_list (pv 0) pe_int (fun _ _ => rfl)) (pe_ix ix_list (pv 0) pe_int (fun _ _ => rfl)) (fun _ _ => rfl)) pa_nil)))
    (pss_one (ps_augS (pv 0) pe_int Tk.pget_list pe_int ip_add set_list))) pss_nil)
    (pss_cons (ps_if (pt_cmpR (op_ge) (pv 3) (pe_op op_pow pe_int pe_int) (nomark _)) (pss_cons (ps_asg (pe_op op_fdiv (pv 3) (pv 1)) (pg_sub (pv 0) pe_int set_list))
    (pss_one (ps_ret (pe_op op_mod (pe_callTy call_int1 (by rfl) T.b_int (by decide +kernel) (pa_cons (pv 3) pa_nil)) (pv 1))))) pss_nil)
    (pss_cons (ps_asg (pe_op op_mod (pe_callTy call_int1 (by rfl) T.b_int (by decide +kernel) (pa_cons (pe_op op_add (pe_op op_add (pe_op op_mul (pe_ix ix_list (pv 0) pe_int (fun _ _ => rfl)) pe_int) (pe_op op_mul (pv 3) pe_int)) pe_int) pa_nil)) pe_int) (pg_sub (pv 0) pe_int set_list))
    (pss_one (ps_ret (pe_op op_mod (pe_callTy call_int1 (by rfl) T.b_int (by decide +kernel) (pa_cons (pe_op op_fdiv (pe_op op_mod (pe_op op_mul (pe_ix ix_list (pv 0) pe_int (fun _ _ => rfl)) pe_int) pe_int) pe_int) pa_nil)) (pv 1)))))))))), ?_⟩
    have st := fun xs h => ste_put (xs := xs) hT h
    obtain ⟨p, r, z, hl, hs, ne, p0⟩ := hT
    dsimp only at hl hs ne q st ⊢
    have at2 : ∀ {x0 x1 x2 x3 : V}, atI [x0, x1, x2, x3] 2 = some x2 := at_of (j := 2) rfl rfl
    have at1 : ∀ {x0 x1 x2 x3 : V}, atI [x0, x1, x2, x3] 1 = some x1 := at_of (j := 1) rfl rfl
    have at0 : ∀ {x0 x1 x2 x3 : V}, atI [x0, x1, x2, x3] 0 = some x0 := at_of (j := 0) rfl rfl
    have at3 : ∀ {x0 x1 x2 x3 : V}, atI [x0, x1, x2, x3] 3 = some x3 := at_of (j := 3) rfl rfl
    have mk : ∀ p r z : Int, 0 ≤ p → TapeAt K (upd H t (.lst [.ref sp, .int p, .int r, .int z])) ⟨t, sp, ns⟩ := fun p r z p0 => ⟨p, r, z, upd_same, seq_put hs ne, ne, p0⟩
    have md : ∀ v : Int, 0 ≤ v % m ∧ v % m < m := fun v => ⟨Int.emod_nonneg _ (by omega), Int.emod_lt_of_pos _ m0⟩
    refine ⟨_, rfl, t, _, _, _, rfl, rfl, SqL.of hl, at2, ?_⟩
    refine ⟨_, rfl, _, _, rfl, rfl, _, rfl, ?_⟩
    refine ite2 (fun c => ?_) (fun c => ?_)
    · refine ⟨_, rfl, _, rfl, _, _, rfl, rfl, ⟨m0, m1⟩, _, rfl, t, _, _, 2, rfl, rfl, hl, rfl, ?_⟩
      refine ⟨_, rfl, .inl ⟨_, rfl, _, rfl, _, _, rfl, rfl, m0, ?_⟩⟩
      exact q _ _ (md _).1 (md _).2 (st _ (mk p (r / m) z p0))
    · refine ⟨fun σ' H' => ∃ (cl p2 : Int), σ' = [some (.ref t), some (.int m), some (.int r), some (.int cl)] ∧ 0 ≤ p2 ∧ H' = upd H t (.lst [.ref sp, .int p2, .int r, .int z]), ?_, ?_⟩
      · refine ⟨_, rfl, t, _, _, _, rfl, rfl, SqL.of hl, at1, _, rfl, t, _, _, _, rfl, rfl, SqL.of hl, at0, sp, _, rfl, .inl hs, _, _, rfl, rfl, _, rfl, ?_⟩
        refine ite2 (fun c2 => ?_) (fun c2 => ?_)
        · have c3 := of_decide_eq_true c2
          rw [List.length_map] at c3
          have hp : p.toNat < ns.length := by omega
          refine ⟨_, rfl, t, _, _, _, rfl, rfl, SqL.of hl, at0, _, rfl, t, _, _, _, rfl, rfl, SqL.of hl, at1, sp, _, _, .int ns[p.toNat], rfl, rfl, hs, at_of (j := p.toNat) (by omega) (by rw [List.getElem?_map, List.getElem?_eq_getElem hp]; rfl), _, rfl, ?_⟩
          refine ⟨_, rfl, t, _, _, _, rfl, rfl, SqL.of hl, by decide, at1, _, _, rfl, rfl, t, _, _, 1, rfl, rfl, hl, rfl, ?_⟩
          exact ⟨_, _, rfl, (by show 0 ≤ p + 1; omega), rfl⟩
        · exact ⟨0, p, rfl, p0, (upd_self hl).symm⟩
      · rintro σ' H' ⟨cl, p2, rfl, p20, rfl⟩
        have hl2 : (upd H t (.lst [.ref sp, .int p2, .int r, .int z])) t = some (.lst [.ref sp, .int p2, .int r, .int z]) := upd_same
        have mk2 : ∀ p r z : Int, 0 ≤ p → TapeAt K (upd H t (.lst [.ref sp, .int p, .int r, .int z])) ⟨t, sp, ns⟩ := mk
        refine ⟨_, rfl, _, _, rfl, rfl, ⟨by decide, by decide, by decide⟩, _, _, rfl, rfl, _, rfl, ?_⟩
        refine ite2 (fun c2 => ?_) (fun c2 => ?_)
        · refine ⟨_, rfl, _, rfl, _, _, rfl, rfl, ⟨m0, m1⟩, _, rfl, t, _, _, 2, rfl, rfl, hl2, rfl, ?_⟩
          refine ⟨_, rfl, .inl ⟨_, rfl, _, rfl, _, _, rfl, rfl, m0, ?_⟩⟩
          rw [upd_upd]
          exact q _ _ (md _).1 (md _).2 (st _ (mk p2 (cl / m) z p20))
        · refine ⟨_, rfl, t, _, _, _, rfl, rfl, SqL.of hl2, at3, _, _, rfl, rfl, .inr ⟨by decide, by decide⟩, _, rfl, _, _, rfl, rfl, .inr ⟨by decide, by decide⟩, _, _, rfl, rfl, _, _, rfl, rfl, .inl ⟨_, rfl, _, _, rfl, rfl, (by show (0 : Int) < 2147483647; decide), _, rfl, t, _, _, 3, rfl, rfl, hl2, rfl, ?_⟩⟩
          rw [upd_upd]
          refine ⟨_, rfl, t, _, _, _, rfl, rfl, SqL.of upd_same, at3, _, _, rfl, rfl, .inr ⟨by decide, by decide⟩, _, _, rfl, rfl, (by show (0 : Int) < 2147483647; decide), _, _, rfl, rfl, ⟨by decide, by decide⟩, .inl ⟨_, rfl, _, rfl, _, _, rfl, rfl, m0, ?_⟩⟩
          exact q _ _ (md _).1 (md _).2 (st _ (mk p2 r _ p20))

theorem ok__law_in (T : Txt K mg a) : FnOk P w K mg base CX0 1 a.f__law_in a.d__law_in ["value", "low", "high"] (spIn K) := by
  refine T.F__law_in.ok sc__law_in (fun vs H Q E h => ?_) (fun cdv A outer s H vs Q E hr h => ?_)
  · obtain ⟨v, d, l, u, rfl, _⟩ := h
    rfl
  · obtain ⟨v, d, l, u, rfl, hd, q⟩ := h
    refine ⟨_, (pss_one (ps_ret (pe_and (pe_callB call_isi (by rfl) T.b_isinstance (by decide +kernel) (pa_cons (pv 0) (pa_cons (pe_bltn (v := .ty "int") rfl T.b_int (by decide +kernel) rfl) pa_nil))) (pe_and (pe_not (pe_callB call_isi (by rfl) T.b_isinstance (by decide +kernel) (pa_cons (pv 0) (pa_cons (pe_bltn (v := .ty "bool") rfl T.b_bool (by decide +kernel) rfl) pa_nil)))) (pe_one (pe_chain (op_le) (op_le) (pv 1) (pv 0) (pv 2))))))), ?_⟩
    have ty := tyx hd
    refine ⟨_, rfl, _, _, _, _, _, rfl, .ty _, ty, kit_int d, _, rfl, ?_⟩
    cases d with
    | int i =>
      cases hd
      refine iteT ⟨_, rfl, _, _, _, _, _, rfl, .ty _, ty, kit_bool _, _, rfl, _, rfl, iteT ⟨_, rfl, _, rfl, _, _, rfl, rfl, _, rfl, ?_⟩⟩
      refine ite2 (fun c => ?_) (fun c => ?_)
      · refine ⟨_, rfl, _, _, rfl, rfl, ?_⟩
        have e : inD (.int i) l u = decide (i ≤ u) := by simp only [inD, c, Bool.true_and]
        rw [e] at q
        exact q
      · have e : inD (.int i) l u = false := by simp only [inD, Bool.eq_false_iff.mpr c, Bool.false_and]
        rw [e] at q
        exact q
    | bool b => exact iteT ⟨_, rfl, _, _, _, _, _, rfl, .ty _, ty, kit_bool _, _, rfl, _, rfl, iteF q⟩
    | none => exact iteF q
    | str x => exact iteF q
    | list xs => exact iteF q
    | tuple xs => exact iteF q
    | dict xs => exact iteF q
theorem in_int {d : PyData} {l u : Int} (h : inD d l u = true) : ∃ i, d = .int i ∧ l ≤ i ∧ i ≤ u := by
  cases d with
  | int i =>
    simp only [inD, Bool.and_eq_true, decide_eq_true_eq] at h
    exact ⟨i, rfl, h.1, h.2⟩
  | _ => cases h
theorem ok__law_range (T : Txt K mg a) : FnOk P w K mg base CX0 2 a.f__law_range a.d__law_range ["first", "pages", "many"] (spRange K) := by
  refine T.F__law_range.ok sc__law_range (fun vs H Q E h => ?_) (fun cdv A outer s H vs Q E hr h => ?_)
  · obtain ⟨v, u, d, e, n, rfl, _⟩ := h
    rfl
  · obtain ⟨v, u, d, e, n, rfl, hd, he, q⟩ := h
    refine ⟨_, (pss_one (ps_ret (pe_and (pe_call (ok__law_in T) (hr.mono (by decide)) rfl T.m__law_in T.F__law_in.kp T.B__law_in .nil pass0 (pa_cons (pv 0) (pa_cons pe_int (pa_cons (pe_op op_sub (pv 2) pe_int) pa_nil)))) (pe_and (pe_call (ok__law_in T) (hr.mono (by decide)) rfl T.m__law_in T.F__law_in.kp T.B__law_in .nil pass0 (pa_cons (pv 1) (pa_cons pe_int (pa_cons (pv 2) pa_nil)))) (pe_one (pe_cmpR (op_le) (pe_op op_add (pv 0) (pv 1)) (pv 2) (nomark _))))))), ?_⟩
    refine ⟨_, rfl, _, rfl, _, _, rfl, rfl, v, d, 0, n - 1, rfl, hd, _, rfl, ?_⟩
    cases b1 : inD d 0 (n - 1) with
    | false =>
      rw [in_below] at b1
      rw [range_f b1] at q
      exact iteF q
    | true =>
      obtain ⟨i, rfl, i0, i1⟩ := in_int b1
      refine iteT ⟨_, rfl, _, rfl, u, e, 1, n, rfl, he, _, rfl, ?_⟩
      cases b2 : inD e 1 n with
      | false =>
        have e1 : rangeD (.int i) e n = false := by
          cases e with
          | int j =>
            simp only [inD, Bool.and_eq_false_iff, decide_eq_false_iff_not] at b2
            simp only [rangeD, decide_eq_false_iff_not]
            omega
          | _ => rfl
        rw [e1] at q
        exact iteF q
      | true =>
        obtain ⟨j, rfl, j0, j1⟩ := in_int b2
        cases hd
        cases he
        refine iteT ⟨_, rfl, _, rfl, _, _, rfl, rfl, _, rfl, _, _, rfl, rfl, ?_⟩
        have e1 : rangeD (.int i) (.int j) n = decide (i + j ≤ n) := by
          simp only [rangeD, decide_eq_decide]
          omega
        rw [e1] at q
        exact q
theorem ok__law_source (T : Txt K mg a) : FnOk P w K mg base CX0 3 a.f__law_source a.d__law_source ["source", "pages"] (spSource K) := by
  refine T.F__law_source.ok sc__law_source (fun vs H Q E h => ?_) (fun cdv A outer s H vs Q E hr h => ?_)
  · obtain ⟨v, u, d, e, rfl, _⟩ := h
    rfl
  · obtain ⟨v, u, d, e, rfl, hd, he, q⟩ := h
    refine ⟨_, (pss_cons (ps_if (pt_cmpR (op_isN) (pv 0) pe_non (by rfl)) (pss_one (ps_ret pe_bl)) pss_nil)
    (pss_cons (ps_if (PW.pt (pw_or (pt_not (pt_val (pe_callB call_isi (by rfl) T.b_isinstance (by decide +kernel) (pa_cons (pv 0) (pa_cons (pe_bltn (v := .ty "tuple") rfl T.b_tuple (by decide +kernel) rfl) pa_nil))))) (pw_or1 (pt_cmpR (op_ne) (pe_callB call_len_seq (by rfl) T.b_len (by decide +kernel) (pa_cons (pv 0) pa_nil)) pe_int (nomark _))))) (pss_one (ps_ret pe_bl)) pss_nil)
    (pss_one (ps_ret (pe_and (pe_call (ok__law_in T) (hr.mono (by decide)) rfl T.m__law_in T.F__law_in.kp T.B__law_in .nil pass0 (pa_cons (pe_ix ix_tup (pv 0) pe_int (fun _ _ => rfl)) (pa_cons pe_int (pa_cons pe_int pa_nil)))) (pe_one (pe_call (ok__law_range T) (hr.mono (by decide)) rfl T.m__law_range T.F__law_range.kp T.B__law_range .nil pass0 (pa_cons (pe_ix ix_tup (pv 0) pe_int (fun _ _ => rfl)) (pa_cons (pv 1) (pa_cons pe_int pa_nil)))))))))), ?_⟩
    have ty := tyx hd
    refine ⟨_, rfl, rfl, _, rfl, ?_⟩
    by_cases hn : d = .none
    · subst hn
      cases hd
      exact iteT q
    · have hv : v ≠ .non := fun e => by
        subst e
        cases hd
        exact hn rfl
      refine ifF (by simpa using hv) ⟨_, rfl, _, _, _, _, _, rfl, .ty _, ty, kit_tup d, _, rfl, ?_⟩
      cases d with
      | tuple ds =>
        cases hd with
        | @tup t xs _ sT aT =>
        have lx := dpAll_len aT
        refine iteF ⟨_, rfl, t, _, rfl, .inr sT, rfl, _, rfl, ?_⟩
        by_cases h2 : xs.length = 2
        · obtain ⟨x, y, rfl⟩ := len2 (lx.symm.trans h2)
          refine ifF (by rw [h2]; rfl) ?_
          cases aT with
          | @cons v0 _ _ _ d0 aT =>
          cases aT with
          | @cons v1 _ _ _ d1 aT =>
          cases aT
          refine ⟨_, rfl, t, _, _, _, rfl, rfl, sT, at_of (j := 0) rfl rfl, v0, x, 0, 1, rfl, d0, _, rfl, ?_⟩
          have e0 : inD x 0 1 = belowD x 2 := in_below x 2
          rw [e0]
          cases b2 : belowD x 2 with
          | false =>
            have e1 : sourceD (.tuple [x, y]) e = false := by simp only [sourceD, b2, Bool.false_and]
            rw [e1] at q
            exact iteF q
          | true =>
            have e1 : sourceD (.tuple [x, y]) e = rangeD y e 4 := by simp only [sourceD, b2, Bool.true_and]
            rw [e1] at q
            exact iteT ⟨_, rfl, t, _, _, _, rfl, rfl, sT, at_of (j := 1) rfl rfl, _, rfl, v1, u, y, e, 4, rfl, d1, he, q⟩
        · have e1 : sourceD (.tuple ds) e = false := source_no hn (by simp only [tupD, decide_eq_false_iff_not]; omega)
          rw [e1] at q
          exact ifT (by simp only [Bool.not_eq_true', decide_eq_false_iff_not, V.int.injEq]; omega) q
      | int b => exact iteT q
      | bool b => exact iteT q
      | none => exact absurd rfl hn
      | str x => exact iteT q
      | list xs => exact iteT q
      | dict xs => exact iteT q
theorem ok__law_rights (T : Txt K mg a) : FnOk P w K mg base CX0 1 a.f__law_rights a.d__law_rights ["value"] (spRights K) := by
  refine T.F__law_rights.ok sc__law_rights (fun vs H Q E h => ?_) (fun cdv A outer s H vs Q E hr h => ?_)
  · obtain ⟨v, d, rfl, _⟩ := h
    rfl
  · obtain ⟨v, d, rfl, hd, q⟩ := h
    refine ⟨_, (pss_one (ps_ret (pe_and (pe_callB call_isi (by rfl) T.b_isinstance (by decide +kernel) (pa_cons (pv 0) (pa_cons (pe_bltn (v := .ty "str") rfl T.b_str (by decide +kernel) rfl) pa_nil))) (pe_one (pe_cmpR (op_in_seq) (pv 0) (pe_tup (pa_cons pe_str (pa_cons pe_str pa_nil))) rfl))))), ?_⟩
    have ty := tyx hd
    refine ⟨_, rfl, _, _, _, _, _, rfl, .ty _, ty, kit_str d, _, rfl, ?_⟩
    cases d with
    | str z =>
      cases hd
      refine iteT ⟨_, rfl, (by show 2 ≤ sizeLine; decide), fun t ht => ⟨t, _, rfl, .inr (SqT.of upd_same), rfl, rfl, ?_⟩⟩
      have e1 : (if false = true then !inV (.str z) [.str "r", .str "rw"] else inV (.str z) [.str "r", .str "rw"]) = rightsD (.str z) := in_rights z
      rw [e1]
      exact q _ (Same.new ht)
    | int b => exact iteF (q H (Same.refl H))
    | bool b => exact iteF (q H (Same.refl H))
    | none => exact iteF (q H (Same.refl H))
    | list xs => exact iteF (q H (Same.refl H))
    | tuple xs => exact iteF (q H (Same.refl H))
    | dict xs => exact iteF (q H (Same.refl H))
theorem ok__law_integers (T : Txt K mg a) : FnOk P w K mg base CX0 1 a.f__law_integers a.d__law_integers ["values"] (spInts K) := by
  refine T.F__law_integers.ok sc__law_integers (fun vs H Q E h => ?_) (fun cdv A outer s H vs Q E hr h => ?_)
  · obtain ⟨v, ds, rfl, _⟩ := h
    rfl
  · obtain ⟨v, ds, rfl, hd, q⟩ := h
    refine ⟨_, (pss_cons (ps_for PassesOwn.never rfl (pi_tup (pv 0)) (pg_name (i := 1) sc__law_integers.nd rfl (Or.inl rfl))
    (pss_one (ps_if (PW.pt (pw_or (pt_not (pt_val (pe_callB call_isi (by rfl) T.b_isinstance (by decide +kernel) (pa_cons (pv 1) (pa_cons (pe_bltn (v := .ty "int") rfl T.b_int (by decide +kernel) rfl) pa_nil))))) (pw_or1 (pt_val (pe_callB call_isi (by rfl) T.b_isinstance (by decide +kernel) (pa_cons (pv 1) (pa_cons (pe_bltn (v := .ty "bool") rfl T.b_bool (by decide +kernel) rfl) pa_nil))))))) (pss_one (ps_ret pe_bl)) pss_nil)))
    (pss_one (ps_ret pe_bl))), ?_⟩
    cases hd with
    | @tup t xs _ sT aT =>
    refine ⟨_, rfl, t, rfl, ⟨_, sT⟩, for_tup (xs := xs) (fun i σ' H' => H' = H ∧ (∃ x1, σ' = [some (.ref t), x1]) ∧ (ds.take i).all wholeD = true) ⟨rfl, ⟨none, rfl⟩, rfl⟩ (fun i σ' H' _ h => by rw [h.1]; exact sT) ?_ ?_⟩
    · rintro i x σ' H' hx ⟨rfl, ⟨x1, rfl⟩, al⟩
      obtain ⟨d, e1, e2⟩ := dpAll_get aT hx
      have ty := tyx e2
      refine ⟨_, rfl, _, _, _, _, _, rfl, .ty _, ty, kit_int d, _, rfl, ?_⟩
      have ho : wholeD d = false → ds.all wholeD = false := fun h => by
        rw [Bool.eq_false_iff]
        intro k
        rw [List.all_eq_true] at k
        have := k d (mem_of_get e1)
        rw [h] at this
        cases this
      have hn : wholeD d = true → (ds.take (i + 1)).all wholeD = true := fun h => by
        rw [take_snoc e1, List.all_append, al, List.all_cons, h]
        rfl
      cases d with
      | int b => exact iteF ⟨_, rfl, _, _, _, _, _, rfl, .ty _, ty, kit_bool _, _, rfl, iteF ⟨rfl, ⟨_, rfl⟩, hn rfl⟩⟩
      | bool b =>
        rw [ho rfl] at q
        exact iteF ⟨_, rfl, _, _, _, _, _, rfl, .ty _, ty, kit_bool _, _, rfl, iteT q⟩
      | none =>
        rw [ho rfl] at q
        exact iteT q
      | str b =>
        rw [ho rfl] at q
        exact iteT q
      | list b =>
        rw [ho rfl] at q
        exact iteT q
      | tuple b =>
        rw [ho rfl] at q
        exact iteT q
      | dict b =>
        rw [ho rfl] at q
        exact iteT q
    · rintro σ' H' ⟨rfl, ⟨x1, rfl⟩, al⟩
      rw [show xs.length = ds.length from dpAll_len aT, List.take_of_length_le (Nat.le_refl _)] at al
      rw [al] at q
      exact q
theorem ok__law_area (T : Txt K mg a) : FnOk P w K mg base CX0 4 a.f__law_area a.d__law_area ["value"] (spArea2 K) := by
  refine T.F__law_area.ok sc__law_area (fun vs H Q E h => ?_) (fun cdv A outer s H vs Q E hr h => ?_)
  · obtain ⟨v, ds, rfl, _⟩ := h
    rfl
  · obtain ⟨v, ds, rfl, hd, q⟩ := h
    refine ⟨_, (pss_cons (ps_if (PW.pt (pw_or (pt_cmpR (op_ne) (pe_callB call_len_seq (by rfl) T.b_len (by decide +kernel) (pa_cons (pv 0) pa_nil)) pe_int (nomark _)) (pw_or (pt_not (pt_val (pe_call (ok__law_range T) (hr.mono (by decide)) rfl T.m__law_range T.F__law_range.kp T.B__law_range .nil pass0 (pa_cons (pe_ix ix_tup (pv 0) pe_int (fun _ _ => rfl)) (pa_cons (pe_ix ix_tup (pv 0) pe_int (fun _ _ => rfl)) (pa_cons pe_int pa_nil)))))) (pw_or1 (pt_not (pt_val (pe_call (ok__law_rights T) (hr.mono (by decide)) rfl T.m__law_rights T.F__law_rights.kp T.B__law_rights .nil pass0 (pa_cons (pe_ix ix_tup (pv 0) pe_int (fun _ _ => rfl)) pa_nil)))))))) (pss_one (ps_ret pe_bl)) pss_nil)
    (pss_one (ps_ret (pe_call (ok__law_source T) (hr.mono (by decide)) rfl T.m__law_source T.F__law_source.kp T.B__law_source .nil pass0 (pa_cons (pe_ix ix_tup (pv 0) pe_int (fun _ _ => rfl)) (pa_cons (pe_ix ix_tup (pv 0) pe_int (fun _ _ => rfl)) pa_nil)))))), ?_⟩
    cases hd with
    | @tup t xs _ sT aT =>
    have lx := dpAll_len aT
    refine ⟨_, rfl, t, _, rfl, .inr sT, rfl, _, rfl, ?_⟩
    by_cases h4 : xs.length = 4
    · refine ifF (by rw [h4]; rfl) ?_
      obtain ⟨f, p, r, o, e4⟩ := tup4 (d := .tuple ds) (by simp only [tupD, decide_eq_true_eq]; omega)
      cases e4
      cases aT with
      | @cons v0 _ _ _ d0 aT =>
      cases aT with
      | @cons v1 _ _ _ d1 aT =>
      cases aT with
      | @cons v2 _ _ _ d2 aT =>
      cases aT with
      | @cons v3 _ _ _ d3 aT =>
      cases aT
      refine ⟨_, rfl, t, _, _, _, rfl, rfl, sT, at_of (j := 0) rfl rfl, _, rfl, t, _, _, _, rfl, rfl, sT, at_of (j := 1) rfl rfl, v0, v1, f, p, 8, rfl, d0, d1, _, rfl, ?_⟩
      cases b2 : rangeD f p 8 with
      | false =>
        have e1 : areaD (.tuple [f, p, r, o]) = false := by simp only [areaD, b2, Bool.false_and]
        rw [e1] at q
        exact iteT (q H (Same.refl H))
      | true =>
        refine iteF ⟨_, rfl, t, _, _, _, rfl, rfl, sT, at_of (j := 2) rfl rfl, v2, r, rfl, d2, fun H' e' => ⟨_, rfl, ?_⟩⟩
        cases b3 : rightsD r with
        | false =>
          have e1 : areaD (.tuple [f, p, r, o]) = false := by simp only [areaD, b2, b3, Bool.false_and, Bool.and_false]
          rw [e1] at q
          exact iteT (q H' e')
        | true =>
          have e1 : areaD (.tuple [f, p, r, o]) = sourceD o p := by simp only [areaD, b2, b3, Bool.true_and]
          rw [e1] at q
          exact iteF ⟨_, rfl, t, _, _, _, rfl, rfl, Same.tupS e' sT, at_of (j := 3) rfl rfl, _, rfl, t, _, _, _, rfl, rfl, Same.tupS e' sT, at_of (j := 1) rfl rfl, v3, v1, o, p, rfl, dp_mono e' d3, dp_mono e' d1, q H' e'⟩
    · have e1 : areaD (.tuple ds) = false := area_no (by simp only [tupD, decide_eq_false_iff_not]; omega)
      rw [e1] at q
      exact ifT (by simp only [Bool.not_eq_true', decide_eq_false_iff_not, V.int.injEq]; omega) (q H (Same.refl H))

theorem callB_sp {k : Kd} {x : PyData} {r : List PyData} (h : belowD x 4 = false) (n1 : k ≠ .sync) : callB k (x :: r) = false := by
  cases k
  case sync => exact absurd rfl n1
  all_goals
    unfold callB
    split
    all_goals first | (rename_i e; cases e; fail) | rfl | skip
  all_goals (try (rename_i e2; simp at e2))
  all_goals (try (simp_all [placeB]))
theorem ok__law_due (T : Txt K mg a) : FnOk P w K mg base CX0 4 a.f__law_due a.d__law_due ["call"] (spDue K) := by
  refine T.F__law_due.ok sc__law_due (fun vs H Q E h => ?_) (fun cdv A outer s H vs Q E hr h => ?_)
  · obtain ⟨v, ds, rfl, _⟩ := h
    rfl
  · obtain ⟨v, ds, rfl, hd, sh, q⟩ := h
    refine ⟨_, (pss_cons (ps_set (i := 1) sc__law_due.nd rfl (Or.inl rfl) (pe_disp (pps_cons pe_str pe_int (pps_cons pe_str pe_int (pps_cons pe_str pe_int (pps_cons pe_str pe_int (pps_cons pe_str pe_int (pps_cons pe_str pe_int (pps_cons pe_str pe_int (pps_cons pe_str pe_int (pps_cons pe_str pe_int pps_nil))))))))) (by rfl) (by rfl) (fun z => by cases z) (by decide)))
    (pss_cons (ps_dput (hu_of hr) (pv 1) pe_str pe_int rfl)
    (pss_cons (ps_dput (hu_of hr) (pv 1) pe_str pe_int rfl)
    (pss_cons (ps_if (PW.pt (pw_or (pt_cmpR (op_eq) (pe_callB call_len_seq (by rfl) T.b_len (by decide +kernel) (pa_cons (pv 0) pa_nil)) pe_int (nomark _)) (pw_or (pt_not (pt_val (pe_callB call_isi (by rfl) T.b_isinstance (by decide +kernel) (pa_cons (pe_ix ix_tup (pv 0) pe_int (fun _ _ => rfl)) (pa_cons (pe_bltn (v := .ty "str") rfl T.b_str (by decide +kernel) rfl) pa_nil))))) (pw_or1 (pt_cmpR (op_ne) (pe_dget2 (hu_of hr) (pv 1) (pe_ix ix_tup (pv 0) pe_int (fun _ _ => rfl)) pe_int ⟨rfl, rfl, rfl, rfl⟩) (pe_callB call_len_seq (by rfl) T.b_len (by decide +kernel) (pa_cons (pv 0) pa_nil)) (nomark _)))))) (pss_one (ps_ret pe_bl)) pss_nil)
    (pss_cons (ps_set (i := 2) sc__law_due.nd rfl (Or.inl rfl) (pe_ix ix_tup (pv 0) pe_int (fun _ _ => rfl)))
    (pss_cons (ps_if (pt_cmpR (op_eq) (pv 2) pe_str (nomark _)) (pss_one (ps_ret (pe_call (ok__law_in T) (hr.mono (by decide)) rfl T.m__law_in T.F__law_in.kp T.B__law_in .nil pass0 (pa_cons (pe_ix ix_tup (pv 0) pe_int (fun _ _ => rfl)) (pa_cons pe_int (pa_cons pe_int pa_nil)))))) pss_nil)
    (pss_cons (ps_if (pt_cmpR (op_in_seq) (pv 2) (pe_tup (pa_cons pe_str (pa_cons pe_str pa_nil))) rfl) (pss_one (ps_ret pe_bl)) pss_nil)
    (pss_cons (ps_if (pt_not (pt_val (pe_call (ok__law_in T) (hr.mono (by decide)) rfl T.m__law_in T.F__law_in.kp T.B__law_in .nil pass0 (pa_cons (pe_ix ix_tup (pv 0) pe_int (fun _ _ => rfl)) (pa_cons pe_int (pa_cons pe_int pa_nil)))))) (pss_one (ps_ret pe_bl)) pss_nil)
    (pss_cons (ps_if (pt_cmpR (op_in_seq) (pv 2) (pe_tup (pa_cons pe_str (pa_cons pe_str pa_nil))) rfl) (pss_one (ps_ret pe_bl)) pss_nil)
    (pss_cons (ps_if (pt_cmpR (op_in_seq) (pv 2) (pe_tup (pa_cons pe_str (pa_cons pe_str (pa_cons pe_str pa_nil)))) rfl) (pss_one (ps_ret (pe_and (pe_call (ok__law_in T) (hr.mono (by decide)) rfl T.m__law_in T.F__law_in.kp T.B__law_in .nil pass0 (pa_cons (pe_ix ix_tup (pv 0) pe_int (fun _ _ => rfl)) (pa_cons pe_int (pa_cons pe_int pa_nil)))) (pe_and (pe_call (ok__law_in T) (hr.mono (by decide)) rfl T.m__law_in T.F__law_in.kp T.B__law_in .nil pass0 (pa_cons (pe_ix ix_tup (pv 0) pe_int (fun _ _ => rfl)) (pa_cons pe_int (pa_cons pe_int pa_nil)))) (pe_one (pe_call (ok__law_integers T) (hr.mono (by decide)) rfl T.m__law_integers T.F__law_integers.kp T.B__law_integers .nil pass0 (pa_cons (pe_slice sl_tupA (pv 0) (po_some pe_int) po_none) pa_nil))))))) pss_nil)
    (pss_cons (ps_if (pt_not (pt_val (pe_call (ok__law_range T) (hr.mono (by decide)) rfl T.m__law_range T.F__law_range.kp T.B__law_range .nil pass0 (pa_cons (pe_ix ix_tup (pv 0) pe_int (fun _ _ => rfl)) (pa_cons (pe_ix ix_tup (pv 0) pe_int (fun _ _ => rfl)) (pa_cons pe_int pa_nil)))))) (pss_one (ps_ret pe_bl)) pss_nil)
    (pss_cons (ps_if (pt_cmpR (op_eq) (pv 2) pe_str (nomark _)) (pss_one (ps_ret pe_bl)) pss_nil)
    (pss_cons (ps_if (pt_not (pt_val (pe_call (ok__law_rights T) (hr.mono (by decide)) rfl T.m__law_rights T.F__law_rights.kp T.B__law_rights .nil pass0 (pa_cons (pe_ix ix_tup (pv 0) pe_int (fun _ _ => rfl)) pa_nil)))) (pss_one (ps_ret pe_bl)) pss_nil)
    (pss_one (ps_ret (pe_or (pe_cmpR (op_eq) (pv 2) pe_str (nomark _)) (pe_one (pe_call (ok__law_source T) (hr.mono (by decide)) rfl T.m__law_source T.F__law_source.kp T.B__law_source .nil pass0 (pa_cons (pe_ix ix_tup (pv 0) pe_int (fun _ _ => rfl)) (pa_cons (pe_ix ix_tup (pv 0) pe_int (fun _ _ => rfl)) pa_nil)))))))))))))))))))), ?_⟩
    cases hd with
    | @tup t xs _ sT aT =>
    have lx := dpAll_len aT
    refine fun p hp => ⟨upd_same, sizesL, rfl, by decide, ?_⟩
    refine ⟨_, rfl, p, _, rfl, DPut.k (k := .inr "evict") upd_same (by decide), ?_⟩
    refine ⟨_, rfl, p, _, rfl, DPut.k (k := .inr "sync") upd_same (by decide), ?_⟩
    rw [upd_upd, upd_upd, upd_upd, sizes_put]
    have sm := Same.new (o := .dK (sizesL ++ [(.inr "evict", .int 1), (.inr "sync", .int 2)])) hp
    have hd1 : upd H p (.dK (sizesL ++ [(.inr "evict", .int 1), (.inr "sync", .int 2)])) p = some (.dK (sizesL ++ [(.inr "evict", .int 1), (.inr "sync", .int 2)])) := upd_same
    generalize upd H p (.dK (sizesL ++ [(.inr "evict", .int 1), (.inr "sync", .int 2)])) = H1 at sm hd1 ⊢
    replace sT := Same.tupS sm sT
    replace aT := dpAll_mono sm aT
    refine ⟨_, rfl, t, _, rfl, .inr sT, rfl, _, rfl, ?_⟩
    cases aT with
    | nil => exact iteT (q H1 sm)
    | @cons v0 xr d0 r h0 aT =>
    refine ifF (by simp only [List.length_cons, decide_eq_false_iff_not, V.int.injEq]; omega) ?_
    refine ⟨_, rfl, t, _, _, _, rfl, rfl, sT, at_of (j := 0) rfl rfl, _, _, _, _, _, rfl, .ty _, tyx h0, kit_str d0, _, rfl, ?_⟩
    cases d0 with
    | int b => exact iteT (q H1 sm)
    | bool b => exact iteT (q H1 sm)
    | none => exact iteT (q H1 sm)
    | list ys => exact iteT (q H1 sm)
    | tuple ys => exact iteT (q H1 sm)
    | dict ys => exact iteT (q H1 sm)
    | str z =>
    cases h0
    refine iteF ⟨_, rfl, p, rfl, .inl ⟨_, .inl hd1⟩, _, rfl, t, _, _, _, rfl, rfl, sT, at_of (j := 0) rfl rfl, _, DGet.k (k := .inr z) hd1, ?_⟩
    rw [sizes_at]
    have lr : xr.length = r.length := dpAll_len aT
    cases ek : kindOf z with
    | none =>
      have e1 : callD (.tuple (.str z :: r)) = false := by
        show (match kindOf z with | some k => callB k r | none => false) = false
        rw [ek]
      rw [e1] at q
      exact ⟨_, rfl, t, _, rfl, .inr sT, rfl, _, rfl, ifT (by
        show (!decide (V.int 0 = V.int ((V.str z :: xr).length : Nat))) = true
        simp only [List.length_cons, Bool.not_eq_true', decide_eq_false_iff_not, V.int.injEq]
        omega) (q H1 sm)⟩
    | some k =>
    have ez := nm_kind ek
    subst ez
    rw [call_nm] at q
    refine ⟨_, rfl, t, _, rfl, .inr sT, rfl, _, rfl, ?_⟩
    show if (!decide (V.int ((k.len : Int) + 1) = V.int ((V.str k.nm :: xr).length : Nat))) = true then _ else _
    by_cases hl : r.length = k.len
    case neg =>
      rw [callB_len hl] at q
      exact ifT (by simp only [List.length_cons, Bool.not_eq_true', decide_eq_false_iff_not, V.int.injEq]; omega) (q H1 sm)
    refine ifF (by simp only [List.length_cons, Bool.not_eq_false', decide_eq_true_eq, V.int.injEq]; omega) ?_
    refine ⟨_, rfl, t, _, _, _, rfl, rfl, sT, at_of (j := 0) rfl rfl, ?_⟩
    refine ⟨_, rfl, rfl, _, rfl, ?_⟩
    by_cases k1 : k = .sync
    · subst k1
      match r, hl with
      | [x], _ =>
      cases aT with
      | cons d1 aT =>
      cases aT
      refine ifT (by decide +kernel) ⟨_, rfl, t, _, _, _, rfl, rfl, sT, at_of (j := 1) rfl rfl, _, x, 0, 1, rfl, d1, ?_⟩
      rw [show inD x 0 1 = belowD x 2 from in_below x 2]
      exact q H1 sm
    refine ifF (by cases k <;> first | decide +kernel | exact absurd rfl k1) ⟨_, rfl, (by show 2 ≤ sizeLine; decide), fun t1 h1 => ⟨t1, _, rfl, .inr (SqT.of upd_same), rfl, rfl, _, rfl, ?_⟩⟩
    have s1 := Same.new (o := .tup [.str "begin", .str "evict"]) h1
    replace sT := Same.tupS s1 sT
    replace aT := dpAll_mono s1 aT
    replace sm := sm.trans s1
    generalize upd H1 t1 (.tup [.str "begin", .str "evict"]) = H2 at s1 sT aT sm ⊢
    by_cases k2 : k = .begin ∨ k = .evict
    · have e1 : callB k r = true := by
        rcases k2 with rfl | rfl
        · match r, hl with
          | [], _ => rfl
        · match r, hl with
          | [], _ => rfl
      rw [e1] at q
      exact ifT (by rcases k2 with rfl | rfl <;> decide +kernel) (q H2 sm)
    rw [not_or] at k2
    refine ifF (by cases k <;> first | decide +kernel | exact absurd rfl k1 | exact absurd rfl k2.1 | exact absurd rfl k2.2) ?_
    have e1 : ∃ x r', r = x :: r' := by
      cases r with
      | nil => cases k <;> first | exact absurd rfl k2.1 | exact absurd rfl k2.2 | cases hl
      | cons x r' => exact ⟨x, r', rfl⟩
    obtain ⟨x, r, rfl⟩ := e1
    cases aT with
    | @cons v1 xr _ _ d1 aT =>
    refine ⟨_, rfl, t, _, _, _, rfl, rfl, sT, at_of (j := 1) rfl rfl, v1, x, 0, 3, rfl, d1, _, rfl, ?_⟩
    rw [show inD x 0 3 = belowD x 4 from in_below x 4]
    cases b1 : belowD x 4 with
    | false =>
      rw [callB_sp b1 k1] at q
      exact iteT (q H2 sm)
    | true =>
    refine iteF ⟨_, rfl, (by show 2 ≤ sizeLine; decide), fun t1 h1 => ⟨t1, _, rfl, .inr (SqT.of upd_same), rfl, rfl, _, rfl, ?_⟩⟩
    have s1 := Same.new (o := .tup [.str "fork", .str "end"]) h1
    replace sT := Same.tupS s1 sT
    replace aT := dpAll_mono s1 aT
    replace sm := sm.trans s1
    generalize upd H2 t1 (.tup [.str "fork", .str "end"]) = H3 at s1 sT aT sm ⊢
    by_cases k3 : k = .fork ∨ k = .«end»
    · have e1 : callB k (x :: r) = true := by
        rcases k3 with rfl | rfl
        · match r, hl with
          | [], _ => exact b1
        · match r, hl with
          | [], _ => exact b1
      rw [e1] at q
      exact ifT (by rcases k3 with rfl | rfl <;> decide +kernel) (q H3 sm)
    rw [not_or] at k3
    refine ifF (by cases k <;> first | decide +kernel | exact absurd rfl k1 | exact absurd rfl k2.1 | exact absurd rfl k2.2 | exact absurd rfl k3.1 | exact absurd rfl k3.2) ⟨_, rfl, (by show 3 ≤ sizeLine; decide), fun t1 h1 => ⟨t1, _, rfl, .inr (SqT.of upd_same), rfl, rfl, _, rfl, ?_⟩⟩
    have s1 := Same.new (o := .tup [.str "load", .str "store", .str "change"]) h1
    replace sT := Same.tupS s1 sT
    replace aT := dpAll_mono s1 aT
    replace sm := sm.trans s1
    generalize upd H3 t1 (.tup [.str "load", .str "store", .str "change"]) = H4 at s1 sT aT sm ⊢
    by_cases k4 : k = .load ∨ k = .store ∨ k = .change
    · have e1 : ∃ y z r', r = y :: z :: r' ∧ callB k (x :: y :: z :: r') = (belowD y 8 && (belowD z 2 && r'.all wholeD)) := by
        have pl : ∀ y z, placeB x y z = (belowD y 8 && belowD z 2) := fun y z => by unfold placeB; rw [b1, Bool.true_and]
        rcases k4 with rfl | rfl | rfl
        · match r, hl with
          | [y, z], _ => exact ⟨y, z, [], rfl, by
              show placeB x y z = _
              rw [pl, List.all_nil, Bool.and_true]⟩
        · match r, hl with
          | [y, z, u], _ => exact ⟨y, z, [u], rfl, by
              show (placeB x y z && wholeD u) = _
              rw [pl, List.all_cons, List.all_nil, Bool.and_true, Bool.and_assoc]⟩
        · match r, hl with
          | [y, z, u, o], _ => exact ⟨y, z, [u, o], rfl, by
              show (placeB x y z && (wholeD u && wholeD o)) = _
              rw [pl, List.all_cons, List.all_cons, List.all_nil, Bool.and_true, Bool.and_assoc]⟩
      obtain ⟨y, z, r, rfl, e1⟩ := e1
      rw [e1] at q
      cases aT with
      | @cons v2 xr _ _ d2 aT =>
      cases aT with
      | @cons v3 xr _ _ d3 aT =>
      refine ifT (by rcases k4 with rfl | rfl | rfl <;> decide +kernel) ⟨_, rfl, t, _, _, _, rfl, rfl, sT, at_of (j := 2) rfl rfl, v2, y, 0, 7, rfl, d2, _, rfl, ?_⟩
      rw [show inD y 0 7 = belowD y 8 from in_below y 8]
      cases b2 : belowD y 8 with
      | false =>
        rw [b2] at q
        exact iteF (q H4 sm)
      | true =>
      rw [b2] at q
      refine iteT ⟨_, rfl, t, _, _, _, rfl, rfl, sT, at_of (j := 3) rfl rfl, v3, z, 0, 1, rfl, d3, _, rfl, ?_⟩
      rw [show inD z 0 1 = belowD z 2 from in_below z 2]
      cases b3 : belowD z 2 with
      | false =>
        rw [b3] at q
        exact iteF (q H4 sm)
      | true =>
      rw [b3] at q
      refine iteT ⟨_, rfl, _, rfl, t, _, rfl, sT, fun h => ?_, fun h p2 hp2 => ?_⟩
      · exfalso
        have e0 : HT.sIx (V.str k.nm :: v1 :: v2 :: v3 :: xr).length 0 (some 4) = min 4 (V.str k.nm :: v1 :: v2 :: v3 :: xr).length := HT.sIx_nat _ 0 4
        have := h.1
        rw [e0] at this
        simp only [List.length_cons] at this
        omega
      · have e0 : cutV (V.str k.nm :: v1 :: v2 :: v3 :: xr) (some 4) none = xr := by
          unfold cutV
          have e0 : HT.sIx (V.str k.nm :: v1 :: v2 :: v3 :: xr).length 0 (some 4) = min 4 (V.str k.nm :: v1 :: v2 :: v3 :: xr).length := HT.sIx_nat _ 0 4
          rw [e0, HT.sIx_none, show min 4 (V.str k.nm :: v1 :: v2 :: v3 :: xr).length = 4 by simp only [List.length_cons]; omega]
          exact List.take_of_length_le (by simp)
        rw [e0]
        have s2 := Same.new (o := .tup xr) hp2
        exact ⟨.ref p2, r, rfl, .tup (SqT.of upd_same) (dpAll_mono s2 aT), q _ (sm.trans s2)⟩
    have k5 : k = .map ∨ k = .unmap ∨ k = .protect := by
      rw [not_or, not_or] at k4
      cases k <;> simp_all
    clear k1 k2 k3
    have e1 : ∃ y z r', r = y :: z :: r' := by
      rcases k5 with rfl | rfl | rfl
      · match r, hl with
        | [y, z, u, o], _ => exact ⟨_, _, _, rfl⟩
      · match r, hl with
        | [y, z], _ => exact ⟨_, _, _, rfl⟩
      · match r, hl with
        | [y, z, u], _ => exact ⟨_, _, _, rfl⟩
    obtain ⟨y, z, r, rfl⟩ := e1
    cases aT with
    | @cons v2 xr _ _ d2 aT =>
    cases aT with
    | @cons v3 xr _ _ d3 aT =>
    refine ifF (by rcases k5 with rfl | rfl | rfl <;> decide +kernel) ⟨_, rfl, t, _, _, _, rfl, rfl, sT, at_of (j := 2) rfl rfl, _, rfl, t, _, _, _, rfl, rfl, sT, at_of (j := 3) rfl rfl, v2, v3, y, z, 8, rfl, d2, d3, _, rfl, ?_⟩
    cases b2 : rangeD y z 8 with
    | false =>
      have e1 : callB k (x :: y :: z :: r) = false := by
        rcases k5 with rfl | rfl | rfl
        · match r, hl with
          | [u, o], _ =>
            show (belowD x 4 && (rangeD y z 8 && rightsD u && sourceD o z)) = false
            rw [b2, Bool.false_and, Bool.false_and, Bool.and_false]
        · match r, hl with
          | [], _ =>
            show (belowD x 4 && rangeD y z 8) = false
            rw [b2, Bool.and_false]
        · match r, hl with
          | [u], _ =>
            show (belowD x 4 && (rangeD y z 8 && rightsD u && sourceD .none z)) = false
            rw [b2, Bool.false_and, Bool.false_and, Bool.and_false]
      rw [e1] at q
      exact iteT (q H4 sm)
    | true =>
    refine iteF ⟨_, rfl, rfl, _, rfl, ?_⟩
    by_cases k6 : k = .unmap
    · subst k6
      match r, hl with
      | [], _ =>
      have e1 : callB .unmap [x, y, z] = true := by
        show (belowD x 4 && rangeD y z 8) = true
        rw [b1, b2]
        rfl
      rw [e1] at q
      exact ifT (by decide +kernel) (q H4 sm)
    have k7 : k = .map ∨ k = .protect := by
      rcases k5 with h | h | h
      · exact .inl h
      · exact absurd h k6
      · exact .inr h
    have e1 : ∃ u r', r = u :: r' := by
      rcases k7 with rfl | rfl
      · match r, hl with
        | [u, o], _ => exact ⟨_, _, rfl⟩
      · match r, hl with
        | [u], _ => exact ⟨_, _, rfl⟩
    obtain ⟨u, r, rfl⟩ := e1
    cases aT with
    | @cons v4 xr _ _ d4 aT =>
    refine ifF (by rcases k7 with rfl | rfl <;> decide +kernel) ⟨_, rfl, t, _, _, _, rfl, rfl, sT, at_of (j := 4) rfl rfl, v4, u, rfl, d4, fun H5 s5 => ⟨_, rfl, ?_⟩⟩
    replace sT := Same.tupS s5 sT
    replace aT := dpAll_mono s5 aT
    replace sm := sm.trans s5
    cases b3 : rightsD u with
    | false =>
      have e1 : callB k (x :: y :: z :: u :: r) = false := by
        rcases k7 with rfl | rfl
        · match r, hl with
          | [o], _ =>
            show (belowD x 4 && (rangeD y z 8 && rightsD u && sourceD o z)) = false
            rw [b3, Bool.and_false, Bool.false_and, Bool.and_false]
        · match r, hl with
          | [], _ =>
            show (belowD x 4 && (rangeD y z 8 && rightsD u && sourceD .none z)) = false
            rw [b3, Bool.and_false, Bool.false_and, Bool.and_false]
      rw [e1] at q
      exact iteT (q H5 sm)
    | true =>
    refine iteF ⟨_, rfl, rfl, _, rfl, ?_⟩
    rcases k7 with rfl | rfl
    · match r, hl with
      | [o], _ =>
      have e1 : callB .map [x, y, z, u, o] = sourceD o z := by
        show (belowD x 4 && (rangeD y z 8 && rightsD u && sourceD o z)) = _
        rw [b1, b2, b3]
        rfl
      rw [e1] at q
      cases aT with
      | @cons v5 xr _ _ d5 aT =>
      refine ifF (by decide +kernel) ⟨_, rfl, t, _, _, _, rfl, rfl, sT, at_of (j := 5) rfl rfl, _, rfl, t, _, _, _, rfl, rfl, sT, at_of (j := 3) rfl rfl, v5, v3, o, z, rfl, d5, dp_mono s5 d3, q H5 sm⟩
    · match r, hl with
      | [], _ =>
      have e1 : callB .protect [x, y, z, u] = true := by
        show (belowD x 4 && (rangeD y z 8 && rightsD u && sourceD .none z)) = _
        rw [b1, b2, b3]
        rfl
      rw [e1] at q
      exact ifT (by decide +kernel) (q H5 sm)

def spLCall (K : PySem.W.Frag) : Sp := fun vs H Q _ => ∃ (x : TX) (m : Int), vs = [.ref x.t, .int m] ∧ TapeAt K H x ∧ 0 < m ∧ m < 1073741824 ∧
  ∀ (y : V) (ds : List PyData) (H' : Hp), Ste K x H H' → Dp K H' y (.tuple ds) → Sh 3 (.tuple ds) → noL (.tuple ds) = true → ds.length ≤ 10 → ds ≠ [] → Q y H'
theorem sh0s (z : Str) (h : PyData.canLay0 (.str z) = true) {n : Nat} : Sh n (.str z) := (sh_str z h).up (by omega)
theorem sh0i (i : Int) {n : Nat} : Sh n (.int i) := (sh_int i).up (by omega)
theorem ok__law_call (T : Txt K mg a) : FnOk P w K mg base CX0 2 a.f__law_call a.d__law_call ["tape", "spaces"] (spLCall K) := by
  refine T.F__law_call.ok sc__law_call (fun vs H Q E h => ?_) (fun cdv A outer s H vs Q E hr h => ?_)
  · obtain ⟨x, m, rfl, _⟩ := h
    rfl
  · obtain ⟨x, m, rfl, hT, m0, m1, q⟩ := h
    refine ⟨_, (pss_cons (ps_set (i := 2) sc__law_call.nd rfl (Or.inl rfl) (pe_call (ok__law_next T) (hr.mono (by decide)) rfl T.m__law_next T.F__law_next.kp T.B__law_next .nil pass0 (pa_cons (pv 0) (pa_cons pe_int pa_nil))))
    (pss_cons (ps_set (i := 3) sc__law_call.nd rfl (Or.inl rfl) (pe_call (ok__law_next T) (hr.mono (by decide)) rfl T.m__law_next T.F__law_next.kp T.B__law_next .nil pass0 (pa_cons (pv 0) (pa_cons (pv 1) pa_nil))))
    (pss_cons (ps_set (i := 4) sc__law_call.nd rfl (Or.inl rfl) (pe_call (ok__law_next T) (hr.mono (by decide)) rfl T.m__law_next T.F__law_next.kp T.B__law_next .nil pass0 (pa_cons (pv 0) (pa_cons (pe_ix ix_tup (pe_tup (pa_cons pe_int (pa_cons pe_int pa_nil))) (pe_op op_fdiv (pe_call (ok__law_next T) (hr.mono (by decide)) rfl T.m__law_next T.F__law_next.kp T.B__law_next .nil pass0 (pa_cons (pv 0) (pa_cons pe_int pa_nil))) pe_int) (fun _ _ => rfl)) pa_nil))))
    (pss_cons (ps_set (i := 5) sc__law_call.nd rfl (Or.inl rfl) (pe_op op_add pe_int (pe_call (ok__law_next T) (hr.mono (by decide)) rfl T.m__law_next T.F__law_next.kp T.B__law_next .nil pass0 (pa_cons (pv 0) (pa_cons (pe_callB (call_min2 rfl) (by rfl) T.b_min (by decide +kernel) (pa_cons pe_int (pa_cons (pe_op op_sub pe_int (pv 4)) pa_nil))) pa_nil)))))
    (pss_cons (ps_if (pt_cmpR (op_lt) (pv 2) pe_int (nomark _)) (pss_one (ps_ret (pe_tup (pa_cons pe_str (pa_cons (pv 3) (pa_cons (pv 4) (pa_cons (pe_call (ok__law_next T) (hr.mono (by decide)) rfl T.m__law_next T.F__law_next.kp T.B__law_next .nil pass0 (pa_cons (pv 0) (pa_cons pe_int pa_nil))) (pa_cons (pe_op op_add pe_int (pe_call (ok__law_next T) (hr.mono (by decide)) rfl T.m__law_next T.F__law_next.kp T.B__law_next .nil pass0 (pa_cons (pv 0) (pa_cons pe_int pa_nil)))) pa_nil)))))))) pss_nil)
    (pss_cons (ps_if (pt_cmpR (op_lt) (pv 2) pe_int (nomark _)) (pss_one (ps_ret (pe_tup (pa_cons pe_str (pa_cons (pv 3) (pa_cons (pv 4) (pa_cons (pe_call (ok__law_next T) (hr.mono (by decide)) rfl T.m__law_next T.F__law_next.kp T.B__law_next .nil pass0 (pa_cons (pv 0) (pa_cons pe_int pa_nil))) pa_nil))))))) pss_nil)
    (pss_cons (ps_if (pt_cmpR (op_eq) (pv 2) pe_int (nomark _)) (pss_one (ps_ret (pe_tup (pa_cons pe_str (pa_cons (pv 3) (pa_cons (pv 4) (pa_cons (pe_call (ok__law_next T) (hr.mono (by decide)) rfl T.m__law_next T.F__law_next.kp T.B__law_next .nil pass0 (pa_cons (pv 0) (pa_cons pe_int pa_nil))) (pa_cons (pe_call (ok__law_next T) (hr.mono (by decide)) rfl T.m__law_next T.F__law_next.kp T.B__law_next .nil pass0 (pa_cons (pv 0) (pa_cons pe_int pa_nil))) (pa_cons (pe_op op_add pe_int (pe_call (ok__law_next T) (hr.mono (by decide)) rfl T.m__law_next T.F__law_next.kp T.B__law_next .nil pass0 (pa_cons (pv 0) (pa_cons pe_int pa_nil)))) pa_nil))))))))) pss_nil)
    (pss_cons (ps_if (pt_cmpR (op_lt) (pv 2) pe_int (nomark _)) (pss_cons (ps_set (i := 6) sc__law_call.nd rfl (Or.inl rfl) pe_non)
    (pss_mid (ps_if (pt_cmpR (op_eq) (pe_call (ok__law_next T) (hr.mono (by decide)) rfl T.m__law_next T.F__law_next.kp T.B__law_next .nil pass0 (pa_cons (pv 0) (pa_cons pe_int pa_nil))) pe_int (nomark _)) (pss_one (ps_set (i := 6) sc__law_call.nd rfl (Or.inl rfl) (pe_tup (pa_cons (pe_call (ok__law_next T) (hr.mono (by decide)) rfl T.m__law_next T.F__law_next.kp T.B__law_next .nil pass0 (pa_cons (pv 0) (pa_cons pe_int pa_nil))) (pa_cons (pe_call (ok__law_next T) (hr.mono (by decide)) rfl T.m__law_next T.F__law_next.kp T.B__law_next .nil pass0 (pa_cons (pv 0) (pa_cons (pe_op op_sub pe_int (pv 5)) pa_nil))) pa_nil))))) pss_nil)
    (pss_one (ps_ret (pe_tup (pa_cons pe_str (pa_cons (pv 3) (pa_cons (pv 4) (pa_cons (pv 5) (pa_cons (pe_ix ix_tup (pe_tup (pa_cons pe_str (pa_cons pe_str (pa_cons pe_str pa_nil)))) (pe_call (ok__law_next T) (hr.mono (by decide)) rfl T.m__law_next T.F__law_next.kp T.B__law_next .nil pass0 (pa_cons (pv 0) (pa_cons pe_int pa_nil))) (fun _ _ => rfl)) (pa_cons (pv 6) pa_nil))))))))))) pss_nil)
    (pss_cons (ps_if (pt_cmpR (op_eq) (pv 2) pe_int (nomark _)) (pss_one (ps_ret (pe_tup (pa_cons pe_str (pa_cons (pv 3) (pa_cons (pv 4) (pa_cons (pv 5) pa_nil))))))) pss_nil)
    (pss_cons (ps_if (pt_cmpR (op_eq) (pv 2) pe_int (nomark _)) (pss_one (ps_ret (pe_tup (pa_cons pe_str (pa_cons (pv 3) (pa_cons (pv 4) (pa_cons (pv 5) (pa_cons (pe_ix ix_tup (pe_tup (pa_cons pe_str (pa_cons pe_str pa_nil))) (pe_call (ok__law_next T) (hr.mono (by decide)) rfl T.m__law_next T.F__law_next.kp T.B__law_next .nil pass0 (pa_cons (pv 0) (pa_cons pe_int pa_nil))) (fun _ _ => rfl)) pa_nil)))))))) pss_nil)
    (pss_cons (ps_if (pt_cmpR (op_lt) (pv 2) pe_int (nomark _)) (pss_one (ps_ret (pe_tup (pa_cons pe_str (pa_cons (pv 3) pa_nil))))) pss_nil)
    (pss_cons (ps_if (pt_cmpR (op_eq) (pv 2) pe_int (nomark _)) (pss_one (ps_ret (pe_ix ix_tup (pe_tup (pa_cons (pe_tup (pa_cons pe_str (pa_cons (pv 3) pa_nil))) (pa_cons (pe_tup (pa_cons pe_str pa_nil)) (pa_cons (pe_tup (pa_cons pe_str (pa_cons (pe_call (ok__law_next T) (hr.mono (by decide)) rfl T.m__law_next T.F__law_next.kp T.B__law_next .nil pass0 (pa_cons (pv 0) (pa_cons pe_int pa_nil))) pa_nil))) pa_nil)))) (pe_call (ok__law_next T) (hr.mono (by decide)) rfl T.m__law_next T.F__law_next.kp T.B__law_next .nil pass0 (pa_cons (pv 0) (pa_cons pe_int pa_nil))) (fun _ _ => rfl)))) pss_nil)
    (pss_one (ps_ret (pe_tup (pa_cons pe_str pa_nil)))))))))))))))), ?_⟩
    have two : (2 : Nat) ≤ sizeLine := by decide
    have c1 : PyData.canLay0 (.str "load") = true := by decide +kernel
    have c2 : PyData.canLay0 (.str "store") = true := by decide +kernel
    have c3 : PyData.canLay0 (.str "change") = true := by decide +kernel
    have c4 : PyData.canLay0 (.str "map") = true := by decide +kernel
    have c5 : PyData.canLay0 (.str "unmap") = true := by decide +kernel
    have c6 : PyData.canLay0 (.str "protect") = true := by decide +kernel
    have c7 : PyData.canLay0 (.str "fork") = true := by decide +kernel
    have c8 : PyData.canLay0 (.str "end") = true := by decide +kernel
    have c9 : PyData.canLay0 (.str "begin") = true := by decide +kernel
    have ca : PyData.canLay0 (.str "sync") = true := by decide +kernel
    have cb : PyData.canLay0 (.str "evict") = true := by decide +kernel
    have cr : PyData.canLay0 (.str "r") = true := by decide +kernel
    have cw : PyData.canLay0 (.str "rw") = true := by decide +kernel
    refine ⟨_, rfl, x, _, rfl, hT, (by decide), (by decide), fun kind H1 k0 k1 e1 => ?_⟩
    refine ⟨_, rfl, _, rfl, x, _, rfl, e1.tape, m0, m1, fun space H2 s0 s1 e2 => ?_⟩
    replace e2 := e1.trans e2
    refine ⟨_, rfl, (by show 2 ≤ sizeLine; decide), fun t1 h1 => ⟨_, rfl, x, _, rfl, (e2.new h1).tape, (by decide), (by decide), fun j H3 j0 j1 e3 => ?_⟩⟩
    obtain ⟨c, hc, hc0, hc1⟩ : ∃ c : Int, atI [V.int 3, .int 8] (j / 4 * 0 + j / 3) = some (.int c) ∧ 0 < c ∧ c ≤ 8 := by
      have : j / 3 = 0 ∨ j / 3 = 1 := by omega
      rcases this with h | h
      · exact ⟨3, by rw [h, show j / 4 * 0 + 0 = 0 by omega]; exact at_of (j := 0) rfl rfl, by decide, by decide⟩
      · exact ⟨8, by rw [h, show j / 4 * 0 + 1 = 1 by omega]; exact at_of (j := 1) rfl rfl, by decide, by decide⟩
    rw [show j / 4 * 0 + j / 3 = j / 3 by omega] at hc
    have t1S := e3.kt _ _ (upd_same (H := H2) (a := t1)) True.intro
    replace e3 := (e2.new h1).trans e3
    refine ⟨_, _, rfl, rfl, ⟨by decide, by decide⟩, t1, _, _, _, rfl, rfl, SqT.of t1S, hc, x, _, rfl, e3.tape, hc0, (by omega), fun page H4 p0 p1 e4 => ?_⟩
    replace e4 := e3.trans e4
    refine ⟨_, rfl, _, rfl, _, _, rfl, rfl, _, _, rfl, x, _, rfl, e4.tape, (by split <;> omega), (by split <;> omega), fun ps H5 q0 q1 e5 => ⟨_, _, rfl, rfl, ?_⟩⟩
    replace e5 := e4.trans e5
    have ps3 : ps < 3 := by
      split at q1 <;> omega
    clear e1 e2 e3 e4 t1S
    dsimp only
    generalize epg : (1 : Int) + ps = pages
    -- store
    refine ⟨_, rfl, _, _, rfl, rfl, _, rfl, ite2 (fun _ => ?_) (fun _ => ?_)⟩
    · refine ⟨_, rfl, _, rfl, _, rfl, x, _, rfl, e5.tape, (by decide), (by decide), fun i1 H6 _ _ e6 => ⟨_, rfl, x, _, rfl, e6.tape, (by decide), (by decide), fun i2 H7 _ _ e7 => ⟨_, _, rfl, rfl, (by show 5 ≤ sizeLine; decide), fun t ht => ?_⟩⟩⟩
      refine q _ [.str "store", .int space, .int page, .int i1, .int (1 + i2)] _ (((e5.trans e6).trans e7).new ht) (.tup (SqT.of upd_same) (.cons (.str _) (.cons (.int _) (.cons (.int _) (.cons (.int _) (.cons (.int _) .nil))))))
        ((sh_tup (n := 0) (sh_c (sh0s _ c2) (sh_c (sh0i _) (sh_c (sh0i _) (sh_c (sh0i _) (sh_c (sh0i _) sh_n)))))).up (by decide)) (noL_t (noL_c (noL_s _) (noL_c (noL_i _) (noL_c (noL_i _) (noL_c (noL_i _) (noL_c (noL_i _) noL_n)))))) (by simp) (by simp)
    -- load
    refine ⟨_, rfl, _, _, rfl, rfl, _, rfl, ite2 (fun _ => ?_) (fun _ => ?_)⟩
    · refine ⟨_, rfl, _, rfl, _, rfl, x, _, rfl, e5.tape, (by decide), (by decide), fun i1 H6 _ _ e6 => ⟨(by show 4 ≤ sizeLine; decide), fun t ht => ?_⟩⟩
      refine q _ [.str "load", .int space, .int page, .int i1] _ ((e5.trans e6).new ht) (.tup (SqT.of upd_same) (.cons (.str _) (.cons (.int _) (.cons (.int _) (.cons (.int _) .nil)))))
        ((sh_tup (n := 0) (sh_c (sh0s _ c1) (sh_c (sh0i _) (sh_c (sh0i _) (sh_c (sh0i _) sh_n))))).up (by decide)) (noL_t (noL_c (noL_s _) (noL_c (noL_i _) (noL_c (noL_i _) (noL_c (noL_i _) noL_n))))) (by simp) (by simp)
    -- change
    refine ⟨_, rfl, rfl, _, rfl, ite2 (fun _ => ?_) (fun _ => ?_)⟩
    · refine ⟨_, rfl, _, rfl, _, rfl, x, _, rfl, e5.tape, (by decide), (by decide), fun i1 H6 _ _ e6 => ⟨_, rfl, x, _, rfl, e6.tape, (by decide), (by decide), fun i2 H7 _ _ e7 => ⟨_, rfl, x, _, rfl, e7.tape, (by decide), (by decide), fun i3 H8 _ _ e8 => ⟨_, _, rfl, rfl, (by show 6 ≤ sizeLine; decide), fun t ht => ?_⟩⟩⟩⟩
      refine q _ [.str "change", .int space, .int page, .int i1, .int i2, .int (1 + i3)] _ ((((e5.trans e6).trans e7).trans e8).new ht) (.tup (SqT.of upd_same) (.cons (.str _) (.cons (.int _) (.cons (.int _) (.cons (.int _) (.cons (.int _) (.cons (.int _) .nil)))))))
        ((sh_tup (n := 0) (sh_c (sh0s _ c3) (sh_c (sh0i _) (sh_c (sh0i _) (sh_c (sh0i _) (sh_c (sh0i _) (sh_c (sh0i _) sh_n))))))).up (by decide)) (noL_t (noL_c (noL_s _) (noL_c (noL_i _) (noL_c (noL_i _) (noL_c (noL_i _) (noL_c (noL_i _) (noL_c (noL_i _) noL_n))))))) (by simp) (by simp)
    -- map
    refine ⟨_, rfl, _, _, rfl, rfl, _, rfl, ite2 (fun _ => ?_) (fun _ => ?_)⟩
    · refine ⟨fun σ' H' => ∃ (v : V) (d : PyData), σ' = [some (.ref x.t), some (.int m), some (.int kind), some (.int space), some (.int page), some (.int pages), some v] ∧ Ste K x H H' ∧ Dp K H' v d ∧ Sh 1 d ∧ noL d = true, ?_, ?_⟩
      · refine ⟨_, rfl, x, _, rfl, e5.tape, (by decide), (by decide), fun i1 H6 _ _ e6 => ⟨rfl, _, rfl, ite2 (fun _ => ?_) (fun _ => ?_)⟩⟩
        · refine ⟨_, rfl, x, _, rfl, e6.tape, (by decide), (by decide), fun i2 H7 _ _ e7 => ⟨_, rfl, _, rfl, _, _, rfl, rfl, x, _, rfl, e7.tape, (by omega), (by omega), fun i3 H8 _ _ e8 => ⟨two, fun t ht => ?_⟩⟩⟩
          exact ⟨_, .tuple [.int i2, .int i3], rfl, (((e5.trans e6).trans e7).trans e8).new ht, .tup (SqT.of upd_same) (.cons (.int _) (.cons (.int _) .nil)), sh_tup (n := 0) (sh_c (sh0i _) (sh_c (sh0i _) sh_n)), noL_t (noL_c (noL_i _) (noL_c (noL_i _) noL_n))⟩
        · exact ⟨_, .none, rfl, e5.trans e6, .non, sh_none.up (by decide), noL_0⟩
      · rintro σ' H6 ⟨v, d, rfl, e6, hv, sv, nv⟩
        refine ⟨_, rfl, _, rfl, _, rfl, (by show 3 ≤ sizeLine; decide), fun t3 h3 => ⟨_, rfl, x, _, rfl, (e6.new h3).tape, (by decide), (by decide), fun i1 H7 i0 i1' e7 => ?_⟩⟩
        have t3S := e7.kt _ _ (upd_same (H := H6) (a := t3)) True.intro
        have hv7 := e7.dp nv (dp_mono (Same.new h3) hv)
        replace e7 := (e6.new h3).trans e7
        obtain ⟨z, hz, sz⟩ : ∃ z : Str, atI [V.str "rw", .str "rw", .str "r"] i1 = some (.str z) ∧ PyData.canLay0 (.str z) = true := by
          have : i1 = 0 ∨ i1 = 1 ∨ i1 = 2 := by omega
          rcases this with rfl | rfl | rfl
          · exact ⟨_, at_of (j := 0) rfl rfl, cw⟩
          · exact ⟨_, at_of (j := 1) rfl rfl, cw⟩
          · exact ⟨_, at_of (j := 2) rfl rfl, cr⟩
        refine ⟨t3, _, _, _, rfl, rfl, SqT.of t3S, hz, _, rfl, (by show 6 ≤ sizeLine; decide), fun t ht => ?_⟩
        refine q _ [.str "map", .int space, .int page, .int pages, .str z, d] _ (e7.new ht) (.tup (SqT.of upd_same) (.cons (.str _) (.cons (.int _) (.cons (.int _) (.cons (.int _) (.cons (.str _) (.cons (dp_mono (Same.new ht) hv7) .nil)))))))
          ((sh_tup (n := 1) (sh_c (sh0s _ c4) (sh_c (sh0i _) (sh_c (sh0i _) (sh_c (sh0i _) (sh_c (sh0s _ sz) (sh_c sv sh_n))))))).up (by decide)) (noL_t (noL_c (noL_s _) (noL_c (noL_i _) (noL_c (noL_i _) (noL_c (noL_i _) (noL_c (noL_s _) (noL_c nv noL_n))))))) (by simp) (by simp)
    -- unmap
    refine ⟨_, rfl, rfl, _, rfl, ite2 (fun _ => ?_) (fun _ => ?_)⟩
    · refine ⟨_, rfl, _, rfl, _, rfl, (by show 4 ≤ sizeLine; decide), fun t ht => ?_⟩
      refine q _ [.str "unmap", .int space, .int page, .int pages] _ (e5.new ht) (.tup (SqT.of upd_same) (.cons (.str _) (.cons (.int _) (.cons (.int _) (.cons (.int _) .nil)))))
        ((sh_tup (n := 0) (sh_c (sh0s _ c5) (sh_c (sh0i _) (sh_c (sh0i _) (sh_c (sh0i _) sh_n))))).up (by decide)) (noL_t (noL_c (noL_s _) (noL_c (noL_i _) (noL_c (noL_i _) (noL_c (noL_i _) noL_n))))) (by simp) (by simp)
    -- protect
    refine ⟨_, rfl, rfl, _, rfl, ite2 (fun _ => ?_) (fun _ => ?_)⟩
    · refine ⟨_, rfl, _, rfl, _, rfl, two, fun t3 h3 => ⟨_, rfl, x, _, rfl, (e5.new h3).tape, (by decide), (by decide), fun i1 H7 i0 i1' e7 => ?_⟩⟩
      have t3S := e7.kt _ _ (upd_same (H := H5) (a := t3)) True.intro
      replace e7 := (e5.new h3).trans e7
      obtain ⟨z, hz, sz⟩ : ∃ z : Str, atI [V.str "r", .str "rw"] i1 = some (.str z) ∧ PyData.canLay0 (.str z) = true := by
        have : i1 = 0 ∨ i1 = 1 := by omega
        rcases this with rfl | rfl
        · exact ⟨_, at_of (j := 0) rfl rfl, cr⟩
        · exact ⟨_, at_of (j := 1) rfl rfl, cw⟩
      refine ⟨t3, _, _, _, rfl, rfl, SqT.of t3S, hz, (by show 5 ≤ sizeLine; decide), fun t ht => ?_⟩
      refine q _ [.str "protect", .int space, .int page, .int pages, .str z] _ (e7.new ht) (.tup (SqT.of upd_same) (.cons (.str _) (.cons (.int _) (.cons (.int _) (.cons (.int _) (.cons (.str _) .nil))))))
        ((sh_tup (n := 1) (sh_c (sh0s _ c6) (sh_c (sh0i _) (sh_c (sh0i _) (sh_c (sh0i _) (sh_c (sh0s _ sz) sh_n)))))).up (by decide)) (noL_t (noL_c (noL_s _) (noL_c (noL_i _) (noL_c (noL_i _) (noL_c (noL_i _) (noL_c (noL_s _) noL_n)))))) (by simp) (by simp)
    -- fork
    refine ⟨_, rfl, _, _, rfl, rfl, _, rfl, ite2 (fun _ => ?_) (fun _ => ?_)⟩
    · refine ⟨_, rfl, two, fun t ht => ?_⟩
      exact q _ [.str "fork", .int space] _ (e5.new ht) (.tup (SqT.of upd_same) (.cons (.str _) (.cons (.int _) .nil))) ((sh_tup (n := 0) (sh_c (sh0s _ c7) (sh_c (sh0i _) sh_n))).up (by decide)) (noL_t (noL_c (noL_s _) (noL_c (noL_i _) noL_n))) (by simp) (by simp)
    -- end, begin, sync
    refine ⟨_, rfl, rfl, _, rfl, ite2 (fun _ => ?_) (fun _ => ?_)⟩
    · refine ⟨_, rfl, two, fun ta ha => ⟨(by show 1 ≤ sizeLine; decide), fun tb hb => ⟨_, rfl, x, _, rfl, ((e5.new ha).new hb).tape, (by decide), (by decide), fun i1 H6 _ _ e6 => ⟨two, fun tc hcc => ⟨(by show 3 ≤ sizeLine; decide), fun td hdd => ⟨_, rfl, x, _, rfl, (((((e5.new ha).new hb).trans e6).new hcc).new hdd).tape, (by decide), (by decide), fun i2 H7 b0 b1 e7 => ?_⟩⟩⟩⟩⟩⟩
      have a1 : H7 ta = some (.tup [.str "end", .int space]) := e7.kt _ _ (Same.new hdd _ _ (Same.new hcc _ _ (e6.kt _ _ (Same.new hb _ _ upd_same) True.intro))) True.intro
      have a2 : H7 tb = some (.tup [.str "begin"]) := e7.kt _ _ (Same.new hdd _ _ (Same.new hcc _ _ (e6.kt _ _ upd_same True.intro))) True.intro
      have a3 : H7 tc = some (.tup [.str "sync", .int i1]) := e7.kt _ _ (Same.new hdd _ _ upd_same) True.intro
      have a4 : H7 td = some (.tup [.ref ta, .ref tb, .ref tc]) := e7.kt _ _ upd_same True.intro
      replace e7 := (((((e5.new ha).new hb).trans e6).new hcc).new hdd).trans e7
      have : i2 = 0 ∨ i2 = 1 ∨ i2 = 2 := by omega
      rcases this with rfl | rfl | rfl
      · refine ⟨td, _, _, _, rfl, rfl, SqT.of a4, at_of (j := 0) rfl rfl, ?_⟩
        exact q _ [.str "end", .int space] _ e7 (.tup (SqT.of a1) (.cons (.str _) (.cons (.int _) .nil))) ((sh_tup (n := 0) (sh_c (sh0s _ c8) (sh_c (sh0i _) sh_n))).up (by decide)) (noL_t (noL_c (noL_s _) (noL_c (noL_i _) noL_n))) (by simp) (by simp)
      · refine ⟨td, _, _, _, rfl, rfl, SqT.of a4, at_of (j := 1) rfl rfl, ?_⟩
        exact q _ [.str "begin"] _ e7 (.tup (SqT.of a2) (.cons (.str _) .nil)) ((sh_tup (n := 0) (sh_c (sh0s _ c9) sh_n)).up (by decide)) (noL_t (noL_c (noL_s _) noL_n)) (by simp) (by simp)
      · refine ⟨td, _, _, _, rfl, rfl, SqT.of a4, at_of (j := 2) rfl rfl, ?_⟩
        exact q _ [.str "sync", .int i1] _ e7 (.tup (SqT.of a3) (.cons (.str _) (.cons (.int _) .nil))) ((sh_tup (n := 0) (sh_c (sh0s _ ca) (sh_c (sh0i _) sh_n))).up (by decide)) (noL_t (noL_c (noL_s _) (noL_c (noL_i _) noL_n))) (by simp) (by simp)
    -- evict
    refine ⟨(by show 1 ≤ sizeLine; decide), fun t ht => ?_⟩
    exact q _ [.str "evict"] _ (e5.new ht) (.tup (SqT.of upd_same) (.cons (.str _) .nil)) ((sh_tup (n := 0) (sh_c (sh0s _ cb) sh_n)).up (by decide)) (noL_t (noL_c (noL_s _) noL_n)) (by simp) (by simp)

def spBent (K : PySem.W.Frag) : Sp := fun vs H Q _ => ∃ (x : TX) (y : V) (ds : List PyData), vs = [.ref x.t, y] ∧ TapeAt K H x ∧ Dp K H y (.tuple ds) ∧ Sh 4 (.tuple ds) ∧ noL (.tuple ds) = true ∧ ds.length ≤ 10 ∧ ds ≠ [] ∧
  ∀ (y' : V) (es : List PyData) (H' : Hp), Ste K x H H' → Dp K H' y' (.tuple es) → Sh 4 (.tuple es) → noL (.tuple es) = true → Q y' H'
def Good (K : PySem.W.Frag) (H : Hp) (v : V) : Prop := ∃ d, Dp K H v d ∧ Sh 3 d ∧ noL d = true
theorem good_all {K : PySem.W.Frag} {H : Hp} : ∀ {vs : List V}, (∀ v ∈ vs, Good K H v) → ∃ ds, DpAll K H vs ds ∧ Sh 4 (.tuple ds) ∧ noL (.tuple ds) = true
  | [], _ => ⟨[], .nil, (sh_tup (n := 3) sh_n), noL_t noL_n⟩
  | v :: vs, h => by
    obtain ⟨d, h1, h2, h3⟩ := h v (List.mem_cons_self ..)
    obtain ⟨ds, k1, k2, k3⟩ := good_all (vs := vs) fun u hu => h u (List.mem_cons_of_mem _ hu)
    refine ⟨d :: ds, .cons h1 k1, sh_tup (n := 3) (sh_c h2 fun z hz => ?_), noL_t (noL_c h3 (by simpa only [noL] using k3))⟩
    have l := (Wk.Sh.elem k2 hz).lay
    have e := k2.deep
    refine ⟨l, ?_⟩
    simp only [PyData.depth] at e
    have key : ∀ es : List PyData, z ∈ es → z.depth ≤ PyData.depthAll es := by
      intro es
      induction es with
      | nil => intro m; exact absurd m List.not_mem_nil
      | cons x es ih =>
        intro m
        simp only [PyData.depthAll]
        rcases List.mem_cons.mp m with rfl | m
        · exact Nat.le_max_left _ _
        · exact Nat.le_trans (ih m) (Nat.le_max_right _ _)
    have := key ds hz
    omega
theorem Good.keep {K : PySem.W.Frag} {H H' : Hp} {v : V} (e : KT H H') (h : Good K H v) : Good K H' v := by
  obtain ⟨d, h1, h2, h3⟩ := h
  exact ⟨d, dp_keep e h3 h1, h2, h3⟩
theorem good_i {K : PySem.W.Frag} {H : Hp} (i : Int) : Good K H (.int i) := ⟨.int i, .int i, (sh_int i).up (by decide), noL_i i⟩
theorem good_s {K : PySem.W.Frag} {H : Hp} (z : Str) (h : PyData.canLay0 (.str z) = true) : Good K H (.str z) := ⟨.str z, .str z, (sh_str z h).up (by decide), noL_s z⟩
theorem good_2 {K : PySem.W.Frag} {H : Hp} {t : Addr} {i j : Int} (h : H t = some (.tup [.int i, .int j])) : Good K H (.ref t) := ⟨.tuple [.int i, .int j], .tup (SqT.of h) (.cons (.int _) (.cons (.int _) .nil)), (sh_tup (n := 0) (sh_c (sh_int _) (sh_c (sh_int _) sh_n))).up (by decide), noL_t (noL_c (noL_i _) (noL_c (noL_i _) noL_n))⟩
theorem ok__law_bent (T : Txt K mg a) : FnOk P w K mg base CX0 2 a.f__law_bent a.d__law_bent ["tape", "value"] (spBent K) := by
  refine T.F__law_bent.ok sc__law_bent (fun vs H Q E h => ?_) (fun cdv A outer s H vs Q E hr h => ?_)
  · obtain ⟨x, y, ds, rfl, _⟩ := h
    rfl
  · obtain ⟨x, y, ds, rfl, hT, hd, sh, nl, len, ne, q⟩ := h
    refine ⟨_, (pss_cons (ps_set (i := 2) sc__law_bent.nd rfl (Or.inl rfl) (pe_callTy call_list_of (by rfl) T.b_list (by decide +kernel) (pa_cons (pv 1) pa_nil)))
    (pss_cons (ps_set (i := 3) sc__law_bent.nd rfl (Or.inl rfl) (pe_tup (pa_cons (pe_un un_neg pe_int) (pa_cons pe_int (pa_cons pe_int (pa_cons pe_int (pa_cons pe_int (pa_cons pe_int (pa_cons pe_int (pa_cons pe_int (pa_cons (pe_op op_pow pe_int pe_int) (pa_cons pe_non (pa_cons pe_bl (pa_cons pe_str (pa_cons pe_str (pa_cons pe_str (pa_cons (pe_tup (pa_cons pe_int (pa_cons pe_int pa_nil))) (pa_cons (pe_tup (pa_cons pe_int (pa_cons pe_int pa_nil))) (pa_cons (pe_tup (pa_cons pe_int (pa_cons pe_int pa_nil))) (pa_cons (pe_tup (pa_cons pe_int (pa_cons pe_bl pa_nil))) (pa_cons (pe_tup (pa_cons pe_int pa_nil)) (pa_cons pe_str pa_nil))))))))))))))))))))))
    (pss_cons (ps_set (i := 4) sc__law_bent.nd rfl (Or.inl rfl) (pe_call (ok__law_next T) (hr.mono (by decide)) rfl T.m__law_next T.F__law_next.kp T.B__law_next .nil pass0 (pa_cons (pv 0) (pa_cons pe_int pa_nil))))
    (pss_cons (ps_set (i := 5) sc__law_bent.nd rfl (Or.inl rfl) (pe_call (ok__law_next T) (hr.mono (by decide)) rfl T.m__law_next T.F__law_next.kp T.B__law_next .nil pass0 (pa_cons (pv 0) (pa_cons (pe_callB (call_max2 rfl) (by rfl) T.b_max (by decide +kernel) (pa_cons pe_int (pa_cons (pe_callB call_len_seq (by rfl) T.b_len (by decide +kernel) (pa_cons (pv 2) pa_nil)) pa_nil))) pa_nil))))
    (pss_mid (ps_if (PW.pt (pw_and (pt_cmpR (op_eq) (pv 4) pe_int (nomark _)) (pw_and1 (pt_cmpR (op_neD hr.units) (pv 2) (pe_lst pa_nil) (nomark _))))) (pss_one (ps_expr (pe_bm PySem.F.plainAttrs_list PySem.F.slot_list_pop PySem.F.type_list_pop mt_popAt (pv 2) (pa_cons (pv 5) pa_nil)))) (pss_one (ps_if (pt_cmpR (op_eq) (pv 4) pe_int (nomark _)) (pss_one (ps_expr (pe_bm PySem.F.plainAttrs_list PySem.F.slot_list_append PySem.F.type_list_append mt_append (pv 2) (pa_cons (pe_ix ix_tup (pv 3) (pe_call (ok__law_next T) (hr.mono (by decide)) rfl T.m__law_next T.F__law_next.kp T.B__law_next .nil pass0 (pa_cons (pv 0) (pa_cons pe_int pa_nil))) (fun _ _ => rfl)) pa_nil)))) (pss_one (ps_if (PW.pt (pw_and (pt_cmpR (op_lt) (pv 4) pe_int (nomark _)) (pw_and1 (pt_cmpR (op_neD hr.units) (pv 2) (pe_lst pa_nil) (nomark _))))) (pss_one (ps_asg (pe_ix ix_tup (pv 3) (pe_call (ok__law_next T) (hr.mono (by decide)) rfl T.m__law_next T.F__law_next.kp T.B__law_next .nil pass0 (pa_cons (pv 0) (pa_cons pe_int pa_nil))) (fun _ _ => rfl)) (pg_sub (pv 2) (pv 5) set_list))) pss_nil)))))
    (pss_one (ps_ret (pe_callTy call_tuple_of (by rfl) T.b_tuple (by decide +kernel) (pa_cons (pv 2) pa_nil))))))))), ?_⟩
    cases hd with
    | @tup tv xs _ sT aT =>
    have lx := dpAll_len aT
    refine ⟨_, rfl, tv, _, rfl, .inr sT, fun l hl => ?_⟩
    have e0 := (Ste.refl hT).new (o := .lst xs) hl
    have two : (2 : Nat) ≤ sizeLine := by decide
    refine ⟨_, rfl, _, _, rfl, rfl, ⟨by decide, by decide, by decide⟩, two, fun t1 h1 => ⟨two, fun t2 h2 => ⟨two, fun t3 h3 => ⟨two, fun t4 h4 => ⟨(by show 1 ≤ sizeLine; decide), fun t5 h5 => ⟨(by show 20 ≤ sizeLine; decide), fun t6 h6 => ?_⟩⟩⟩⟩⟩⟩
    have s1 := Same.new (o := .tup [.int 0, .int 1]) h1
    have s2 := Same.new (o := .tup [.int 1, .int 3]) h2
    have s3 := Same.new (o := .tup [.int 2, .int 0]) h3
    have s4 := Same.new (o := .tup [.int 0, .bl true]) h4
    have s5 := Same.new (o := .tup [.int 0]) h5
    have hl0 : upd H l (.lst xs) l = some (.lst xs) := upd_same
    dsimp only at h6 ⊢
    generalize eo : [V.int (-1), V.int 0, V.int 1, V.int 2, V.int 3, V.int 4, V.int 5, V.int 8, V.int (10 ^ Int.toNat 20), V.non, V.bl true, V.str "r", V.str "rw", V.str "load", V.ref t1, V.ref t2, V.ref t3, V.ref t4, V.ref t5, V.str "end"] = others
    have s6 := Same.new (o := .tup others) h6
    have gd : ∀ v ∈ others, Good K (upd (upd (upd (upd (upd (upd (upd H l (.lst xs)) t1 (.tup [.int 0, .int 1])) t2 (.tup [.int 1, .int 3])) t3 (.tup [.int 2, .int 0])) t4 (.tup [.int 0, .bl true])) t5 (.tup [.int 0])) t6 (.tup others)) v := by
      have g1 : Good K _ (V.ref t1) := good_2 (s6 _ _ (s5 _ _ (s4 _ _ (s3 _ _ (s2 _ _ upd_same)))))
      have g2 : Good K _ (V.ref t2) := good_2 (s6 _ _ (s5 _ _ (s4 _ _ (s3 _ _ upd_same))))
      have g3 : Good K _ (V.ref t3) := good_2 (s6 _ _ (s5 _ _ (s4 _ _ upd_same)))
      have g4 : Good K _ (V.ref t4) := ⟨.tuple [.int 0, .bool true], .tup (SqT.of (s6 _ _ (s5 _ _ upd_same))) (.cons (.int _) (.cons (.bl _) .nil)), (sh_tup (n := 0) (sh_c (sh_int _) (sh_c (sh_bool _) sh_n))).up (by decide), noL_t (noL_c (noL_i _) (noL_c (noL_b _) noL_n))⟩
      have g5 : Good K _ (V.ref t5) := ⟨.tuple [.int 0], .tup (SqT.of (s6 _ _ upd_same)) (.cons (.int _) .nil), (sh_tup (n := 0) (sh_c (sh_int _) sh_n)).up (by decide), noL_t (noL_c (noL_i _) noL_n)⟩
      intro v hv
      rw [← eo] at hv
      simp only [List.mem_cons, List.not_mem_nil, or_false] at hv
      rcases hv with rfl | rfl | rfl | rfl | rfl | rfl | rfl | rfl | rfl | rfl | rfl | rfl | rfl | rfl | rfl | rfl | rfl | rfl | rfl | rfl
      · exact good_i _
      · exact good_i _
      · exact good_i _
      · exact good_i _
      · exact good_i _
      · exact good_i _
      · exact good_i _
      · exact good_i _
      · exact good_i _
      · exact ⟨.none, .non, sh_none.up (by decide), noL_0⟩
      · exact ⟨.bool true, .bl _, (sh_bool _).up (by decide), noL_b _⟩
      · exact good_s _ (by decide +kernel)
      · exact good_s _ (by decide +kernel)
      · exact good_s _ (by decide +kernel)
      · exact g1
      · exact g2
      · exact g3
      · exact g4
      · exact g5
      · exact good_s _ (by decide +kernel)
    have lo : others.length = 20 := by rw [← eo]; rfl
    have e1 := (((((e0.new h1).new h2).new h3).new h4).new h5).new (o := .tup others) h6
    have hl1 := s6 _ _ (s5 _ _ (s4 _ _ (s3 _ _ (s2 _ _ (s1 _ _ hl0)))))
    have ho : (upd (upd (upd (upd (upd (upd (upd H l (.lst xs)) t1 (.tup [.int 0, .int 1])) t2 (.tup [.int 1, .int 3])) t3 (.tup [.int 2, .int 0])) t4 (.tup [.int 0, .bl true])) t5 (.tup [.int 0])) t6 (.tup others)) t6 = some (.tup others) := upd_same
    generalize (upd (upd (upd (upd (upd (upd (upd H l (.lst xs)) t1 (.tup [.int 0, .int 1])) t2 (.tup [.int 1, .int 3])) t3 (.tup [.int 2, .int 0])) t4 (.tup [.int 0, .bl true])) t5 (.tup [.int 0])) t6 (.tup others)) = H1 at e1 hl1 ho gd ⊢
    clear s1 s2 s3 s4 s5 s6 h1 h2 h3 h4 h5 h6 eo hl0 e0
    have nlt : l ≠ x.t := fun e => by
      obtain ⟨p, r, z, k1, _⟩ := hT
      rw [← e, hl] at k1
      cases k1
    have gx : ∀ v ∈ xs, Good K H1 v := fun v hv => by
      obtain ⟨i, hi⟩ := List.getElem?_of_mem hv
      obtain ⟨d, k1, k2⟩ := dpAll_get aT hi
      have m := mem_of_get k1
      have s := Wk.Sh.elem sh m
      have nd := noLs_mem (by simpa only [noL] using nl) d m
      refine ⟨d, e1.dp nd k2, ⟨s.lay, ?_⟩, nd⟩
      have e := sh.deep
      simp only [PyData.depth] at e
      have key : ∀ es : List PyData, d ∈ es → d.depth ≤ PyData.depthAll es := by
        intro es
        induction es with
        | nil => intro m; exact absurd m List.not_mem_nil
        | cons x es ih =>
          intro m
          simp only [PyData.depthAll]
          rcases List.mem_cons.mp m with rfl | m
          · exact Nat.le_max_left _ _
          · exact Nat.le_trans (ih m) (Nat.le_max_right _ _)
      have := key ds m
      omega
    refine ⟨_, rfl, x, _, rfl, e1.tape, by decide, by decide, fun way H2 w0 w1 e2 => ?_⟩
    replace gx := fun v hv => (gx v hv).keep e2.kt
    replace gd := fun v hv => (gd v hv).keep e2.kt
    have hl2 := e2.at nlt hl1
    have ho2 := e2.kt _ _ ho True.intro
    replace e2 := e1.trans e2
    clear e1 hl1 ho
    have xp : 0 < xs.length := by
      rw [lx]
      exact List.length_pos_iff.mpr ne
    refine ⟨_, rfl, _, rfl, l, _, rfl, .inl (SqL.of hl2), _, _, rfl, x, _, rfl, e2.tape, by split <;> omega, by split <;> omega, fun place H3 q0 q1 e3 => ?_⟩
    have q2 : place < xs.length := by
      split at q1 <;> omega
    clear q1
    replace gx := fun v hv => (gx v hv).keep e3.kt
    replace gd := fun v hv => (gd v hv).keep e3.kt
    have hl3 := e3.at nlt hl2
    have ho3 := e3.kt _ _ ho2 True.intro
    replace e3 := e2.trans e3
    clear e2 hl2 ho2
    obtain ⟨pn, rfl⟩ : ∃ n : Nat, place = (n : Int) := ⟨place.toNat, by omega⟩
    have px : pn < xs.length := by omega
    have sz : ∀ {n : Nat}, n ≤ 100 → n < sizeLine := fun h => Nat.lt_of_lt_of_le (by omega : _ < 101) (by decide)
    have neE : ∀ {H' : Hp}, KT H3 H' → ∃ es, DpAll K H' xs es ∧ SeqAt.shaped (.list es) = true ∧ PyData.eqv (.list es) (.list []) = false := fun kt => by
      obtain ⟨es, k1, k2, _⟩ := good_all fun v hv => (gx v hv).keep kt
      have sh2 : Sh 5 (.list es) := ⟨by have := k2.lay; simpa only [PyData.canLay0] using this, by have := k2.deep; simp only [PyData.depth] at this ⊢; omega⟩
      refine ⟨es, k1, sh2.ok, ?_⟩
      cases es with
      | nil =>
        have := dpAll_len k1
        simp only [List.length_nil] at this
        omega
      | cons d es => simp only [PyData.eqv, PyData.eqvAll]
    have nil : SeqAt.shaped (.list []) = true := (sh_lst (n := 0) sh_n).ok
    refine ⟨fun σ' H' => ∃ ys, σ' = [some (.ref x.t), some (.ref tv), some (.ref l), some (.ref t6), some (.int way), some (.int (pn : Int))] ∧ Ste K x H H' ∧ H' l = some (.lst ys) ∧ (∀ v ∈ ys, Good K H' v) ∧ ys.length < 100, ?_, ?_⟩
    · have third : ∀ {A B : Prop}, B → (way < 4 → A) → if decide (way < 4) = true then A else B := fun b f => ite2 (fun c => f (of_decide_eq_true c)) (fun _ => b)
      have kt2 : ∀ {H' : Hp} {xs' ys : List V}, H' l = some (.lst xs') → KT H' (upd H' l (.lst ys)) := fun h => KT.lst h
      refine ⟨_, rfl, rfl, _, rfl, ite2 (fun _ => ?_) (fun _ => ?_)⟩
      · refine ⟨_, rfl, (by show 0 ≤ sizeLine; decide), fun l2 h2 => ?_⟩
        obtain ⟨es, k1, k2, k3⟩ := neE (KT.new (u := .lst []) h2)
        have hl4 := Same.new (o := .lst []) h2 _ _ hl3
        refine ⟨.list es, .list [], .lst (SqL.of hl4) k1, .lst (SqL.of upd_same) .nil, k2, nil, _, rfl, ifT (by rw [k3]; rfl) ?_⟩
        refine ⟨_, rfl, .inl ⟨rfl, _, SqL.of hl4⟩, _, rfl, l, xs, _, pn, xs[pn], rfl, rfl, hl4, by omega, by omega, ?_, List.getElem?_eq_getElem px, ?_⟩
        · exact seqIndex_of (k := (pn : Int)) (by omega) (by omega)
        · exact ⟨_, rfl, (e3.new h2).put hT hl, upd_same, fun v hv => ((gx v (List.mem_of_mem_eraseIdx hv)).keep (KT.new h2)).keep (kt2 hl4), by have := List.length_eraseIdx_le xs pn; omega⟩
      · refine ⟨_, rfl, rfl, _, rfl, ite2 (fun _ => ?_) (fun _ => ?_)⟩
        · refine ⟨_, rfl, .inl ⟨rfl, _, SqL.of hl3⟩, _, rfl, _, rfl, x, _, rfl, e3.tape, by decide, by decide, fun j H4 j0 j1 e4 => ?_⟩
          obtain ⟨jn, rfl⟩ : ∃ n : Nat, j = (n : Int) := ⟨j.toNat, by omega⟩
          have jx : jn < others.length := by omega
          have hl4 := e4.at nlt hl3
          refine ⟨t6, _, _, others[jn], rfl, rfl, SqT.of (e4.kt _ _ ho3 True.intro), at_of (j := jn) rfl (List.getElem?_eq_getElem jx), l, xs, _, rfl, rfl, hl4, sz (by omega), ?_⟩
          refine ⟨_, rfl, (e3.trans e4).put hT hl, upd_same, fun v hv => ?_, by rw [List.length_append, List.length_singleton]; omega⟩
          rcases List.mem_append.mp hv with hv | hv
          · exact ((gx v hv).keep e4.kt).keep (kt2 hl4)
          · rw [List.mem_singleton.mp hv]
            exact ((gd _ (List.getElem_mem jx)).keep e4.kt).keep (kt2 hl4)
        · refine ⟨_, rfl, _, _, rfl, rfl, _, rfl, third ⟨_, rfl, e3, hl3, gx, by omega⟩ (fun _ => ?_)⟩
          refine ⟨_, rfl, (by show 0 ≤ sizeLine; decide), fun l2 h2 => ?_⟩
          obtain ⟨es, k1, k2, k3⟩ := neE (KT.new (u := .lst []) h2)
          have hl4 := Same.new (o := .lst []) h2 _ _ hl3
          refine ⟨.list es, .list [], .lst (SqL.of hl4) k1, .lst (SqL.of upd_same) .nil, k2, nil, _, rfl, ifT (by rw [k3]; rfl) ?_⟩
          refine ⟨_, rfl, _, rfl, x, _, rfl, (e3.new h2).tape, by decide, by decide, fun j H4 j0 j1 e4 => ?_⟩
          obtain ⟨jn, rfl⟩ : ∃ n : Nat, j = (n : Int) := ⟨j.toNat, by omega⟩
          have jx : jn < others.length := by omega
          have hl5 := e4.at nlt hl4
          refine ⟨t6, _, _, others[jn], rfl, rfl, SqT.of (e4.kt _ _ (Same.new h2 _ _ ho3) True.intro), at_of (j := jn) rfl (List.getElem?_eq_getElem jx), _, rfl, _, rfl, l, xs, _, pn, rfl, rfl, hl5, Lk.ixN_nat px, ?_⟩
          refine ⟨_, rfl, ((e3.new h2).trans e4).put hT hl, upd_same, fun v hv => ?_, by rw [List.length_set]; omega⟩
          rcases List.mem_or_eq_of_mem_set hv with hv | rfl
          · exact (((gx v hv).keep (KT.new h2)).keep e4.kt).keep (kt2 hl5)
          · exact (((gd _ (List.getElem_mem jx)).keep (KT.new h2)).keep e4.kt).keep (kt2 hl5)
    · rintro σ' H' ⟨ys, rfl, e4, hl4, gy, ly⟩
      refine ⟨_, rfl, l, ys, rfl, .inl ⟨SqL.of hl4, fun t ht => ?_⟩⟩
      obtain ⟨es, k1, k2, k3⟩ := good_all gy
      exact q _ es _ (e4.new ht) (.tup (SqT.of upd_same) (dpAll_mono (Same.new ht) k1)) k2 k3

def spLaw (K : PySem.W.Frag) : Sp := fun vs H Q _ => ∃ (p : Addr) (ns : List Int), vs = [.ref p] ∧ SqL K H p (ns.map V.int) ∧ ns.length ≤ 63 ∧ ∀ H', Q (.bl true) H'
theorem sh_list {n : Nat} {es : List PyData} (h : Sh n (.tuple es)) : Sh n (.list es) := ⟨by have := h.lay; simpa only [PyData.canLay0] using this, by have := h.deep; simp only [PyData.depth] at this ⊢; omega⟩
theorem ok_law (T : Txt K mg a) : FnOk P w K mg base CX0 8 a.f_law a.d_law ["script"] (spLaw K) := by
  refine T.F_law.ok sc_law (fun vs H Q E h => ?_) (fun cdv A outer s H vs Q E hr h => ?_)
  · obtain ⟨p, ns, rfl, _⟩ := h
    rfl
  · obtain ⟨sp, ns, rfl, hS, hlen, q⟩ := h
    refine ⟨_, (pss_cons (ps_set (i := 1) sc_law.nd rfl (Or.inl rfl) (pe_lst (pa_cons (pe_callTy call_list_of (by rfl) T.b_list (by decide +kernel) (pa_cons (pv 0) pa_nil)) (pa_cons pe_int (pa_cons pe_int (pa_cons pe_int pa_nil))))))
    (pss_cons (ps_for PassesOwn.never rfl (pi_range1 rfl T.b_range (pa_cons (pe_op op_add pe_int (pe_call (ok__law_next T) (hr.mono (by decide)) rfl T.m__law_next T.F__law_next.kp T.B__law_next .nil pass0 (pa_cons (pv 1) (pa_cons pe_int pa_nil)))) pa_nil)) (pg_name (i := 2) sc_law.nd rfl (Or.inl rfl))
    (pss_cons (ps_set (i := 3) sc_law.nd rfl (Or.inl rfl) (pe_call (ok__law_bent T) (hr.mono (by decide)) rfl T.m__law_bent T.F__law_bent.kp T.B__law_bent .nil pass0 (pa_cons (pv 1) (pa_cons (pe_call (ok__law_call T) (hr.mono (by decide)) rfl T.m__law_call T.F__law_call.kp T.B__law_call .nil pass0 (pa_cons (pv 1) (pa_cons pe_int pa_nil))) pa_nil))))
    (pss_cons (ps_set (i := 4) sc_law.nd rfl (Or.inl rfl) (pe_call (ok_is_call T) (hr.mono (by decide)) rfl T.m_is_call T.F_is_call.kp T.B_is_call .nil pass0 (pa_cons (pv 3) pa_nil)))
    (pss_cons (ps_if (PW.pt (pw_or (pt_not (pt_val (pe_callB call_isi (by rfl) T.b_isinstance (by decide +kernel) (pa_cons (pv 4) (pa_cons (pe_bltn (v := .ty "bool") rfl T.b_bool (by decide +kernel) rfl) pa_nil))))) (pw_or (pt_cmpR (op_ne) (pv 4) (pe_call (ok__law_due T) (hr.mono (by decide)) rfl T.m__law_due T.F__law_due.kp T.B__law_due .nil pass0 (pa_cons (pv 3) pa_nil)) (nomark _)) (pw_or1 (pt_val (pe_call (ok_is_call T) (hr.mono (by decide)) rfl T.m_is_call T.F_is_call.kp T.B_is_call .nil pass0 (pa_cons (pe_callTy call_list_of (by rfl) T.b_list (by decide +kernel) (pa_cons (pv 3) pa_nil)) pa_nil))))))) (pss_one (ps_ret pe_bl)) pss_nil)
    (pss_cons (ps_set (i := 5) sc_law.nd rfl (Or.inl rfl) (pe_call (ok__law_next T) (hr.mono (by decide)) rfl T.m__law_next T.F__law_next.kp T.B__law_next .nil pass0 (pa_cons (pv 1) (pa_cons pe_int pa_nil))))
    (pss_cons (ps_set (i := 6) sc_law.nd rfl (Or.inl rfl) (pe_op op_add pe_int (pe_call (ok__law_next T) (hr.mono (by decide)) rfl T.m__law_next T.F__law_next.kp T.B__law_next .nil pass0 (pa_cons (pv 1) (pa_cons (pe_op op_sub pe_int (pv 5)) pa_nil)))))
    (pss_cons (ps_set (i := 7) sc_law.nd rfl (Or.inl rfl) pe_non)
    (pss_mid (ps_if (pt_cmpR (op_eq) (pe_call (ok__law_next T) (hr.mono (by decide)) rfl T.m__law_next T.F__law_next.kp T.B__law_next .nil pass0 (pa_cons (pv 1) (pa_cons pe_int pa_nil))) pe_int (nomark _)) (pss_one (ps_set (i := 7) sc_law.nd rfl (Or.inl rfl) (pe_tup (pa_cons (pe_call (ok__law_next T) (hr.mono (by decide)) rfl T.m__law_next T.F__law_next.kp T.B__law_next .nil pass0 (pa_cons (pv 1) (pa_cons pe_int pa_nil))) (pa_cons (pe_call (ok__law_next T) (hr.mono (by decide)) rfl T.m__law_next T.F__law_next.kp T.B__law_next .nil pass0 (pa_cons (pv 1) (pa_cons pe_int pa_nil))) pa_nil))))) pss_nil)
    (pss_cons (ps_set (i := 8) sc_law.nd rfl (Or.inl rfl) (pe_call (ok__law_bent T) (hr.mono (by decide)) rfl T.m__law_bent T.F__law_bent.kp T.B__law_bent .nil pass0 (pa_cons (pv 1) (pa_cons (pe_tup (pa_cons (pv 5) (pa_cons (pv 6) (pa_cons (pe_ix ix_tup (pe_tup (pa_cons pe_str (pa_cons pe_str pa_nil))) (pe_call (ok__law_next T) (hr.mono (by decide)) rfl T.m__law_next T.F__law_next.kp T.B__law_next .nil pass0 (pa_cons (pv 1) (pa_cons pe_int pa_nil))) (fun _ _ => rfl)) (pa_cons (pv 7) pa_nil))))) pa_nil))))
    (pss_cons (ps_set (i := 4) sc_law.nd rfl (Or.inl rfl) (pe_call (ok_is_area T) (hr.mono (by decide)) rfl T.m_is_area T.F_is_area.kp T.B_is_area .nil pass0 (pa_cons (pv 8) pa_nil)))
    (pss_one (ps_if (PW.pt (pw_or (pt_not (pt_val (pe_callB call_isi (by rfl) T.b_isinstance (by decide +kernel) (pa_cons (pv 4) (pa_cons (pe_bltn (v := .ty "bool") rfl T.b_bool (by decide +kernel) rfl) pa_nil))))) (pw_or (pt_cmpR (op_ne) (pv 4) (pe_call (ok__law_area T) (hr.mono (by decide)) rfl T.m__law_area T.F__law_area.kp T.B__law_area .nil pass0 (pa_cons (pv 8) pa_nil)) (nomark _)) (pw_or1 (pt_val (pe_call (ok_is_area T) (hr.mono (by decide)) rfl T.m_is_area T.F_is_area.kp T.B_is_area .nil pass0 (pa_cons (pe_callTy call_list_of (by rfl) T.b_list (by decide +kernel) (pa_cons (pv 8) pa_nil)) pa_nil))))))) (pss_one (ps_ret pe_bl)) pss_nil))))))))))))
    (pss_one (ps_ret pe_bl)))), ?_⟩
    have two : (2 : Nat) ≤ sizeLine := by decide
    refine ⟨_, rfl, sp, _, rfl, .inl hS, fun l hl => ⟨(by show 4 ≤ sizeLine; decide), fun t ht => ?_⟩⟩
    have nlt : l ≠ t := fun e => by
      rw [← e, upd_same] at ht
      cases ht
    have hT : TapeAt K (upd (upd H l (.lst (ns.map V.int))) t (.lst [.ref l, .int 0, .int 0, .int 5])) ⟨t, l, ns⟩ := ⟨0, 0, 5, upd_same, SqL.of ((upd_ne nlt).trans upd_same), nlt, by decide⟩
    dsimp only
    generalize upd (upd H l (.lst (ns.map V.int))) t (.lst [.ref l, .int 0, .int 0, .int 5]) = H2 at hT ⊢
    obtain ⟨x, ex⟩ : ∃ x : TX, x = ⟨t, l, ns⟩ := ⟨_, rfl⟩
    rw [← ex] at hT
    have et : t = x.t := by rw [ex]
    clear ex ht hl nlt
    subst et
    refine ⟨_, rfl, x, _, rfl, hT, by decide, by decide, fun n H3 n0 n1 e3 => ⟨_, _, rfl, rfl, ?_⟩⟩
    refine ⟨_, rfl, ?_, ?_, for_range (lo := 0) (n := ((1 : Int) + n).toNat)
      (fun i σ H' => ∃ (x2 x3 x4 x5 x6 x7 x8 : Option V), σ = [some (.ref sp), some (.ref x.t), x2, x3, x4, x5, x6, x7, x8] ∧ TapeAt K H' x)
      ⟨none, none, none, none, none, none, none, rfl, e3.tape⟩ ?_ ?_⟩
    · show _ ≤ (1 : Int) + n
      omega
    · show (1 : Int) + n < _
      omega
    · rintro i σ H4 hi ⟨x2, x3, x4, x5, x6, x7, x8, rfl, hT4⟩
      refine ⟨_, rfl, _, rfl, x, _, rfl, hT4, by decide, by decide, fun y ds H5 e5 hd sh nl len ne => ⟨x, y, ds, rfl, e5.tape, hd, sh.up (by decide), nl, len, ne, fun y' es H6 e6 hd6 sh6 nl6 => ?_⟩⟩
      refine ⟨_, rfl, y', .tuple es, rfl, hd6, sh6.up (by decide), fun H7 s7 => ?_⟩
      refine ⟨_, rfl, _, _, _, _, _, rfl, .ty _, tyx (K := K) (H := H7) (.bl _), kit_bool _, _, rfl, iteF ?_⟩
      refine ⟨_, rfl, _, rfl, y', es, rfl, dp_mono s7 hd6, sh6.up (by decide), fun H8 s8 => ⟨rfl, _, rfl, ifF (by simp) ?_⟩⟩
      cases hd6 with
      | @tup tc ys _ sT aT =>
      replace s8 := s7.trans s8
      refine ⟨_, rfl, tc, _, rfl, .inr (Same.tupS s8 sT), fun l2 hl2 => ⟨.ref l2, .list es, rfl, .lst (SqL.of upd_same) (dpAll_mono (s8.trans (Same.new hl2)) aT), (sh_list sh6).up (by decide), fun H9 s9 => ⟨_, rfl, iteF ?_⟩⟩⟩
      have e9 : TapeAt K H9 x := (e6.tape.same s8).same ((Same.new hl2).trans s9)
      refine ⟨_, rfl, x, _, rfl, e9, by decide, by decide, fun first Ha f0 f1 ea => ?_⟩
      refine ⟨_, rfl, _, rfl, _, _, rfl, rfl, x, _, rfl, ea.tape, by omega, by omega, fun pg Hb p0 p1 eb => ⟨_, _, rfl, rfl, ?_⟩⟩
      refine ⟨fun σ' H' => ∃ (v : V) (d : PyData) (x4' : Option V) (pgs : Int), σ' = [some (.ref sp), some (.ref x.t), some (.int (0 + (i : Int))), some (.ref tc), x4', some (.int first), some (.int pgs), some v, x8] ∧ TapeAt K H' x ∧ Dp K H' v d ∧ Sh 1 d ∧ noL d = true, ?_, ?_⟩
      · refine ⟨_, rfl, x, _, rfl, eb.tape, by decide, by decide, fun i1 Hc _ _ ec => ⟨rfl, _, rfl, ite2 (fun _ => ?_) (fun _ => ?_)⟩⟩
        · refine ⟨_, rfl, x, _, rfl, ec.tape, by decide, by decide, fun i2 Hd _ _ ed => ⟨_, rfl, x, _, rfl, ed.tape, by decide, by decide, fun i3 He _ _ ee => ⟨two, fun t1 ht1 => ?_⟩⟩⟩
          exact ⟨_, .tuple [.int i2, .int i3], _, _, rfl, (ee.new ht1).tape, .tup (SqT.of upd_same) (.cons (.int _) (.cons (.int _) .nil)), sh_tup (n := 0) (sh_c (sh0i _) (sh_c (sh0i _) sh_n)), noL_t (noL_c (noL_i _) (noL_c (noL_i _) noL_n))⟩
        · exact ⟨_, .none, _, _, rfl, ec.tape, .non, sh_none.up (by decide), noL_0⟩
      · rintro σ' Hc ⟨v, d, x4', pgs, rfl, ec, hv, sv, nv⟩
        refine ⟨_, rfl, _, rfl, _, rfl, two, fun t3 h3 => ⟨_, rfl, x, _, rfl, (ec.same (Same.new h3)), by decide, by decide, fun i1 Hd i0 i1' ed => ?_⟩⟩
        have t3S := ed.kt _ _ (upd_same (H := Hc) (a := t3)) True.intro
        have hvd := ed.dp nv (dp_mono (Same.new h3) hv)
        obtain ⟨z, hz, sz⟩ : ∃ z : Str, atI [V.str "r", .str "rw"] i1 = some (.str z) ∧ PyData.canLay0 (.str z) = true := by
          have : i1 = 0 ∨ i1 = 1 := by omega
          rcases this with rfl | rfl
          · exact ⟨_, at_of (j := 0) rfl rfl, by decide +kernel⟩
          · exact ⟨_, at_of (j := 1) rfl rfl, by decide +kernel⟩
        refine ⟨t3, _, _, _, rfl, rfl, SqT.of t3S, hz, _, rfl, (by show 4 ≤ sizeLine; decide), fun t4 h4 => ?_⟩
        refine ⟨x, _, [.int first, .int pgs, .str z, d], rfl, ed.tape.same (Same.new h4), .tup (SqT.of upd_same) (.cons (.int _) (.cons (.int _) (.cons (.str _) (.cons (dp_mono (Same.new h4) hvd) .nil)))),
          (sh_tup (n := 1) (sh_c (sh0i _) (sh_c (sh0i _) (sh_c (sh0s _ sz) (sh_c sv sh_n))))).up (by decide), noL_t (noL_c (noL_i _) (noL_c (noL_i _) (noL_c (noL_s _) (noL_c nv noL_n)))), by simp, by simp, fun y2 es2 He ee hd2 sh2 nl2 => ?_⟩
        refine ⟨_, rfl, y2, .tuple es2, rfl, hd2, sh2.up (by decide), fun Hf sf => ?_⟩
        refine ⟨_, rfl, _, _, _, _, _, rfl, .ty _, tyx (K := K) (H := Hf) (.bl _), kit_bool _, _, rfl, iteF ?_⟩
        refine ⟨_, rfl, _, rfl, y2, es2, rfl, dp_mono sf hd2, fun Hg sg => ⟨rfl, _, rfl, ifF (by simp) ?_⟩⟩
        cases hd2 with
        | @tup tc2 ys2 _ sT2 aT2 =>
        replace sg := sf.trans sg
        refine ⟨_, rfl, tc2, _, rfl, .inr (Same.tupS sg sT2), fun l2 hl2 => ⟨.ref l2, .list es2, rfl, .lst (SqL.of upd_same) (dpAll_mono (sg.trans (Same.new hl2)) aT2), (sh_list sh2).up (by decide), fun Hh sh' => ⟨_, rfl, iteF ?_⟩⟩⟩
        exact ⟨_, _, _, _, _, _, _, rfl, (ee.tape.same sg).same ((Same.new hl2).trans sh')⟩
    · rintro σ H' _
      exact q _
end
theorem all_mk {l : PySem.W.OpenLaw} {w : World} {K : PySem.W.Frag} {h : Heap} {mg : Str → Option Value} {fa : Addr} (X : K.In h) (G : h.Ns mainGlobals mg) (hfa : mg "law" = some (.ref fa))
    {f_is_whole f_is_number_below f_is_tuple_of f_is_range_below f_is_source f_is_area f_is_space f_is_place f_is_call f__law_next f__law_call f__law_bent f__law_in f__law_range f__law_source f__law_rights f__law_integers f__law_due f__law_area f_law : Addr}
    {od_is_whole an_is_whole : Option Addr} {sl_is_whole : Array (Option Value)} {oc_is_whole kV_is_whole dc_is_whole pm_is_whole cd_is_whole ct_is_whole : Value}
    {od_is_number_below an_is_number_below : Option Addr} {sl_is_number_below : Array (Option Value)} {oc_is_number_below kV_is_number_below dc_is_number_below pm_is_number_below cd_is_number_below ct_is_number_below : Value}
    {od_is_tuple_of an_is_tuple_of : Option Addr} {sl_is_tuple_of : Array (Option Value)} {oc_is_tuple_of kV_is_tuple_of dc_is_tuple_of pm_is_tuple_of cd_is_tuple_of ct_is_tuple_of : Value}
    {od_is_range_below an_is_range_below : Option Addr} {sl_is_range_below : Array (Option Value)} {oc_is_range_below kV_is_range_below dc_is_range_below pm_is_range_below cd_is_range_below ct_is_range_below : Value}
    {od_is_source an_is_source : Option Addr} {sl_is_source : Array (Option Value)} {oc_is_source kV_is_source dc_is_source pm_is_source cd_is_source ct_is_source : Value}
    {od_is_area an_is_area : Option Addr} {sl_is_area : Array (Option Value)} {oc_is_area kV_is_area dc_is_area pm_is_area cd_is_area ct_is_area : Value}
    {od_is_space an_is_space : Option Addr} {sl_is_space : Array (Option Value)} {oc_is_space kV_is_space dc_is_space pm_is_space cd_is_space ct_is_space : Value}
    {od_is_place an_is_place : Option Addr} {sl_is_place : Array (Option Value)} {oc_is_place kV_is_place dc_is_place pm_is_place cd_is_place ct_is_place : Value}
    {od_is_call an_is_call : Option Addr} {sl_is_call : Array (Option Value)} {oc_is_call kV_is_call dc_is_call pm_is_call cd_is_call ct_is_call : Value}
    {od__law_next an__law_next : Option Addr} {sl__law_next : Array (Option Value)} {oc__law_next kV__law_next dc__law_next pm__law_next cd__law_next ct__law_next : Value}
    {od__law_call an__law_call : Option Addr} {sl__law_call : Array (Option Value)} {oc__law_call kV__law_call dc__law_call pm__law_call cd__law_call ct__law_call : Value}
    {od__law_bent an__law_bent : Option Addr} {sl__law_bent : Array (Option Value)} {oc__law_bent kV__law_bent dc__law_bent pm__law_bent cd__law_bent ct__law_bent : Value}
    {od__law_in an__law_in : Option Addr} {sl__law_in : Array (Option Value)} {oc__law_in kV__law_in dc__law_in pm__law_in cd__law_in ct__law_in : Value}
    {od__law_range an__law_range : Option Addr} {sl__law_range : Array (Option Value)} {oc__law_range kV__law_range dc__law_range pm__law_range cd__law_range ct__law_range : Value}
    {od__law_source an__law_source : Option Addr} {sl__law_source : Array (Option Value)} {oc__law_source kV__law_source dc__law_source pm__law_source cd__law_source ct__law_source : Value}
    {od__law_rights an__law_rights : Option Addr} {sl__law_rights : Array (Option Value)} {oc__law_rights kV__law_rights dc__law_rights pm__law_rights cd__law_rights ct__law_rights : Value}
    {od__law_integers an__law_integers : Option Addr} {sl__law_integers : Array (Option Value)} {oc__law_integers kV__law_integers dc__law_integers pm__law_integers cd__law_integers ct__law_integers : Value}
    {od__law_due an__law_due : Option Addr} {sl__law_due : Array (Option Value)} {oc__law_due kV__law_due dc__law_due pm__law_due cd__law_due ct__law_due : Value}
    {od__law_area an__law_area : Option Addr} {sl__law_area : Array (Option Value)} {oc__law_area kV__law_area dc__law_area pm__law_area cd__law_area ct__law_area : Value}
    {od_law an_law : Option Addr} {sl_law : Array (Option Value)} {oc_law kV_law dc_law pm_law cd_law ct_law : Value}
    {t_CELLS : Tok}
    {t_FILES : Tok}
    {t_FILE_PAGES : Tok}
    {t_PAGES : Tok}
    {t_SPACES : Tok}
    (a_is_whole : PySem.W.nsIn K mainGlobals "is_whole" = some (some (.ref f_is_whole)))
    (l_is_whole : K.lookup f_is_whole = some ⟨oc_is_whole, od_is_whole, .func (PySem.W.fnOf "is_whole" "is_whole" (defArgs s_is_whole) (defBody s_is_whole) (defScope s_is_whole) .none kV_is_whole dc_is_whole pm_is_whole an_is_whole cd_is_whole ct_is_whole), sl_is_whole⟩)
    (c_is_whole : PySem.W.codeIn K cd_is_whole "is_whole" = true)
    (k_is_whole : PySem.W.keepIn K (.ref f_is_whole) = true)
    (a_is_number_below : PySem.W.nsIn K mainGlobals "is_number_below" = some (some (.ref f_is_number_below)))
    (l_is_number_below : K.lookup f_is_number_below = some ⟨oc_is_number_below, od_is_number_below, .func (PySem.W.fnOf "is_number_below" "is_number_below" (defArgs s_is_number_below) (defBody s_is_number_below) (defScope s_is_number_below) .none kV_is_number_below dc_is_number_below pm_is_number_below an_is_number_below cd_is_number_below ct_is_number_below), sl_is_number_below⟩)
    (c_is_number_below : PySem.W.codeIn K cd_is_number_below "is_number_below" = true)
    (k_is_number_below : PySem.W.keepIn K (.ref f_is_number_below) = true)
    (a_is_tuple_of : PySem.W.nsIn K mainGlobals "is_tuple_of" = some (some (.ref f_is_tuple_of)))
    (l_is_tuple_of : K.lookup f_is_tuple_of = some ⟨oc_is_tuple_of, od_is_tuple_of, .func (PySem.W.fnOf "is_tuple_of" "is_tuple_of" (defArgs s_is_tuple_of) (defBody s_is_tuple_of) (defScope s_is_tuple_of) .none kV_is_tuple_of dc_is_tuple_of pm_is_tuple_of an_is_tuple_of cd_is_tuple_of ct_is_tuple_of), sl_is_tuple_of⟩)
    (c_is_tuple_of : PySem.W.codeIn K cd_is_tuple_of "is_tuple_of" = true)
    (k_is_tuple_of : PySem.W.keepIn K (.ref f_is_tuple_of) = true)
    (a_is_range_below : PySem.W.nsIn K mainGlobals "is_range_below" = some (some (.ref f_is_range_below)))
    (l_is_range_below : K.lookup f_is_range_below = some ⟨oc_is_range_below, od_is_range_below, .func (PySem.W.fnOf "is_range_below" "is_range_below" (defArgs s_is_range_below) (defBody s_is_range_below) (defScope s_is_range_below) .none kV_is_range_below dc_is_range_below pm_is_range_below an_is_range_below cd_is_range_below ct_is_range_below), sl_is_range_below⟩)
    (c_is_range_below : PySem.W.codeIn K cd_is_range_below "is_range_below" = true)
    (k_is_range_below : PySem.W.keepIn K (.ref f_is_range_below) = true)
    (a_is_source : PySem.W.nsIn K mainGlobals "is_source" = some (some (.ref f_is_source)))
    (l_is_source : K.lookup f_is_source = some ⟨oc_is_source, od_is_source, .func (PySem.W.fnOf "is_source" "is_source" (defArgs s_is_source) (defBody s_is_source) (defScope s_is_source) .none kV_is_source dc_is_source pm_is_source an_is_source cd_is_source ct_is_source), sl_is_source⟩)
    (c_is_source : PySem.W.codeIn K cd_is_source "is_source" = true)
    (k_is_source : PySem.W.keepIn K (.ref f_is_source) = true)
    (a_is_area : PySem.W.nsIn K mainGlobals "is_area" = some (some (.ref f_is_area)))
    (l_is_area : K.lookup f_is_area = some ⟨oc_is_area, od_is_area, .func (PySem.W.fnOf "is_area" "is_area" (defArgs s_is_area) (defBody s_is_area) (defScope s_is_area) .none kV_is_area dc_is_area pm_is_area an_is_area cd_is_area ct_is_area), sl_is_area⟩)
    (c_is_area : PySem.W.codeIn K cd_is_area "is_area" = true)
    (k_is_area : PySem.W.keepIn K (.ref f_is_area) = true)
    (a_is_space : PySem.W.nsIn K mainGlobals "is_space" = some (some (.ref f_is_space)))
    (l_is_space : K.lookup f_is_space = some ⟨oc_is_space, od_is_space, .func (PySem.W.fnOf "is_space" "is_space" (defArgs s_is_space) (defBody s_is_space) (defScope s_is_space) .none kV_is_space dc_is_space pm_is_space an_is_space cd_is_space ct_is_space), sl_is_space⟩)
    (c_is_space : PySem.W.codeIn K cd_is_space "is_space" = true)
    (k_is_space : PySem.W.keepIn K (.ref f_is_space) = true)
    (a_is_place : PySem.W.nsIn K mainGlobals "is_place" = some (some (.ref f_is_place)))
    (l_is_place : K.lookup f_is_place = some ⟨oc_is_place, od_is_place, .func (PySem.W.fnOf "is_place" "is_place" (defArgs s_is_place) (defBody s_is_place) (defScope s_is_place) .none kV_is_place dc_is_place pm_is_place an_is_place cd_is_place ct_is_place), sl_is_place⟩)
    (c_is_place : PySem.W.codeIn K cd_is_place "is_place" = true)
    (k_is_place : PySem.W.keepIn K (.ref f_is_place) = true)
    (a_is_call : PySem.W.nsIn K mainGlobals "is_call" = some (some (.ref f_is_call)))
    (l_is_call : K.lookup f_is_call = some ⟨oc_is_call, od_is_call, .func (PySem.W.fnOf "is_call" "is_call" (defArgs s_is_call) (defBody s_is_call) (defScope s_is_call) .none kV_is_call dc_is_call pm_is_call an_is_call cd_is_call ct_is_call), sl_is_call⟩)
    (c_is_call : PySem.W.codeIn K cd_is_call "is_call" = true)
    (k_is_call : PySem.W.keepIn K (.ref f_is_call) = true)
    (a__law_next : PySem.W.nsIn K mainGlobals "_law_next" = some (some (.ref f__law_next)))
    (l__law_next : K.lookup f__law_next = some ⟨oc__law_next, od__law_next, .func (PySem.W.fnOf "_law_next" "_law_next" (defArgs s__law_next) (defBody s__law_next) (defScope s__law_next) .none kV__law_next dc__law_next pm__law_next an__law_next cd__law_next ct__law_next), sl__law_next⟩)
    (c__law_next : PySem.W.codeIn K cd__law_next "_law_next" = true)
    (k__law_next : PySem.W.keepIn K (.ref f__law_next) = true)
    (a__law_call : PySem.W.nsIn K mainGlobals "_law_call" = some (some (.ref f__law_call)))
    (l__law_call : K.lookup f__law_call = some ⟨oc__law_call, od__law_call, .func (PySem.W.fnOf "_law_call" "_law_call" (defArgs s__law_call) (defBody s__law_call) (defScope s__law_call) .none kV__law_call dc__law_call pm__law_call an__law_call cd__law_call ct__law_call), sl__law_call⟩)
    (c__law_call : PySem.W.codeIn K cd__law_call "_law_call" = true)
    (k__law_call : PySem.W.keepIn K (.ref f__law_call) = true)
    (a__law_bent : PySem.W.nsIn K mainGlobals "_law_bent" = some (some (.ref f__law_bent)))
    (l__law_bent : K.lookup f__law_bent = some ⟨oc__law_bent, od__law_bent, .func (PySem.W.fnOf "_law_bent" "_law_bent" (defArgs s__law_bent) (defBody s__law_bent) (defScope s__law_bent) .none kV__law_bent dc__law_bent pm__law_bent an__law_bent cd__law_bent ct__law_bent), sl__law_bent⟩)
    (c__law_bent : PySem.W.codeIn K cd__law_bent "_law_bent" = true)
    (k__law_bent : PySem.W.keepIn K (.ref f__law_bent) = true)
    (a__law_in : PySem.W.nsIn K mainGlobals "_law_in" = some (some (.ref f__law_in)))
    (l__law_in : K.lookup f__law_in = some ⟨oc__law_in, od__law_in, .func (PySem.W.fnOf "_law_in" "_law_in" (defArgs s__law_in) (defBody s__law_in) (defScope s__law_in) .none kV__law_in dc__law_in pm__law_in an__law_in cd__law_in ct__law_in), sl__law_in⟩)
    (c__law_in : PySem.W.codeIn K cd__law_in "_law_in" = true)
    (k__law_in : PySem.W.keepIn K (.ref f__law_in) = true)
    (a__law_range : PySem.W.nsIn K mainGlobals "_law_range" = some (some (.ref f__law_range)))
    (l__law_range : K.lookup f__law_range = some ⟨oc__law_range, od__law_range, .func (PySem.W.fnOf "_law_range" "_law_range" (defArgs s__law_range) (defBody s__law_range) (defScope s__law_range) .none kV__law_range dc__law_range pm__law_range an__law_range cd__law_range ct__law_range), sl__law_range⟩)
    (c__law_range : PySem.W.codeIn K cd__law_range "_law_range" = true)
    (k__law_range : PySem.W.keepIn K (.ref f__law_range) = true)
    (a__law_source : PySem.W.nsIn K mainGlobals "_law_source" = some (some (.ref f__law_source)))
    (l__law_source : K.lookup f__law_source = some ⟨oc__law_source, od__law_source, .func (PySem.W.fnOf "_law_source" "_law_source" (defArgs s__law_source) (defBody s__law_source) (defScope s__law_source) .none kV__law_source dc__law_source pm__law_source an__law_source cd__law_source ct__law_source), sl__law_source⟩)
    (c__law_source : PySem.W.codeIn K cd__law_source "_law_source" = true)
    (k__law_source : PySem.W.keepIn K (.ref f__law_source) = true)
    (a__law_rights : PySem.W.nsIn K mainGlobals "_law_rights" = some (some (.ref f__law_rights)))
    (l__law_rights : K.lookup f__law_rights = some ⟨oc__law_rights, od__law_rights, .func (PySem.W.fnOf "_law_rights" "_law_rights" (defArgs s__law_rights) (defBody s__law_rights) (defScope s__law_rights) .none kV__law_rights dc__law_rights pm__law_rights an__law_rights cd__law_rights ct__law_rights), sl__law_rights⟩)
    (c__law_rights : PySem.W.codeIn K cd__law_rights "_law_rights" = true)
    (k__law_rights : PySem.W.keepIn K (.ref f__law_rights) = true)
    (a__law_integers : PySem.W.nsIn K mainGlobals "_law_integers" = some (some (.ref f__law_integers)))
    (l__law_integers : K.lookup f__law_integers = some ⟨oc__law_integers, od__law_integers, .func (PySem.W.fnOf "_law_integers" "_law_integers" (defArgs s__law_integers) (defBody s__law_integers) (defScope s__law_integers) .none kV__law_integers dc__law_integers pm__law_integers an__law_integers cd__law_integers ct__law_integers), sl__law_integers⟩)
    (c__law_integers : PySem.W.codeIn K cd__law_integers "_law_integers" = true)
    (k__law_integers : PySem.W.keepIn K (.ref f__law_integers) = true)
    (a__law_due : PySem.W.nsIn K mainGlobals "_law_due" = some (some (.ref f__law_due)))
    (l__law_due : K.lookup f__law_due = some ⟨oc__law_due, od__law_due, .func (PySem.W.fnOf "_law_due" "_law_due" (defArgs s__law_due) (defBody s__law_due) (defScope s__law_due) .none kV__law_due dc__law_due pm__law_due an__law_due cd__law_due ct__law_due), sl__law_due⟩)
    (c__law_due : PySem.W.codeIn K cd__law_due "_law_due" = true)
    (k__law_due : PySem.W.keepIn K (.ref f__law_due) = true)
    (a__law_area : PySem.W.nsIn K mainGlobals "_law_area" = some (some (.ref f__law_area)))
    (l__law_area : K.lookup f__law_area = some ⟨oc__law_area, od__law_area, .func (PySem.W.fnOf "_law_area" "_law_area" (defArgs s__law_area) (defBody s__law_area) (defScope s__law_area) .none kV__law_area dc__law_area pm__law_area an__law_area cd__law_area ct__law_area), sl__law_area⟩)
    (c__law_area : PySem.W.codeIn K cd__law_area "_law_area" = true)
    (k__law_area : PySem.W.keepIn K (.ref f__law_area) = true)
    (a_law : PySem.W.nsIn K mainGlobals "law" = some (some (.ref f_law)))
    (l_law : K.lookup f_law = some ⟨oc_law, od_law, .func (PySem.W.fnOf "law" "law" (defArgs s_law) (defBody s_law) (defScope s_law) .none kV_law dc_law pm_law an_law cd_law ct_law), sl_law⟩)
    (c_law : PySem.W.codeIn K cd_law "law" = true)
    (k_law : PySem.W.keepIn K (.ref f_law) = true)
    (z_CELLS : PySem.W.nsIn K mainGlobals "CELLS" = some (some (.int 2 t_CELLS)))
    (z_FILES : PySem.W.nsIn K mainGlobals "FILES" = some (some (.int 2 t_FILES)))
    (z_FILE_PAGES : PySem.W.nsIn K mainGlobals "FILE_PAGES" = some (some (.int 4 t_FILE_PAGES)))
    (z_PAGES : PySem.W.nsIn K mainGlobals "PAGES" = some (some (.int 8 t_PAGES)))
    (z_SPACES : PySem.W.nsIn K mainGlobals "SPACES" = some (some (.int 4 t_SPACES)))
    (z_abs : PySem.W.nsIn K mainGlobals "abs" = some none)
    (z_bool : PySem.W.nsIn K mainGlobals "bool" = some none)
    (z_int : PySem.W.nsIn K mainGlobals "int" = some none)
    (z_isinstance : PySem.W.nsIn K mainGlobals "isinstance" = some none)
    (z_len : PySem.W.nsIn K mainGlobals "len" = some none)
    (z_list : PySem.W.nsIn K mainGlobals "list" = some none)
    (z_max : PySem.W.nsIn K mainGlobals "max" = some none)
    (z_min : PySem.W.nsIn K mainGlobals "min" = some none)
    (z_range : PySem.W.nsIn K mainGlobals "range" = some none)
    (z_str : PySem.W.nsIn K mainGlobals "str" = some none)
    (z_tuple : PySem.W.nsIn K mainGlobals "tuple" = some none)
    : ∃ fd : FuncData, (∀ (s : Shared) (v : Value), BindsTo s fd ⟨[v], []⟩ [("script", v)]) ∧ ∀ base : Heap, K.In base → base.Ns mainGlobals mg → FnOk l.prog w K mg base CX0 9 fa fd ["script"] (spLaw K) := by
  have e := hfa.symm.trans (PySem.W.mg_of X G a_law)
  cases e
  have T : Txt K mg ⟨f_is_whole, f_is_number_below, f_is_tuple_of, f_is_range_below, f_is_source, f_is_area, f_is_space, f_is_place, f_is_call, f__law_next, f__law_call, f__law_bent, f__law_in, f__law_range, f__law_source, f__law_rights, f__law_integers, f__law_due, f__law_area, fa, PySem.W.fnOf "is_whole" "is_whole" (defArgs s_is_whole) (defBody s_is_whole) (defScope s_is_whole) .none kV_is_whole dc_is_whole pm_is_whole an_is_whole cd_is_whole ct_is_whole, PySem.W.fnOf "is_number_below" "is_number_below" (defArgs s_is_number_below) (defBody s_is_number_below) (defScope s_is_number_below) .none kV_is_number_below dc_is_number_below pm_is_number_below an_is_number_below cd_is_number_below ct_is_number_below, PySem.W.fnOf "is_tuple_of" "is_tuple_of" (defArgs s_is_tuple_of) (defBody s_is_tuple_of) (defScope s_is_tuple_of) .none kV_is_tuple_of dc_is_tuple_of pm_is_tuple_of an_is_tuple_of cd_is_tuple_of ct_is_tuple_of, PySem.W.fnOf "is_range_below" "is_range_below" (defArgs s_is_range_below) (defBody s_is_range_below) (defScope s_is_range_below) .none kV_is_range_below dc_is_range_below pm_is_range_below an_is_range_below cd_is_range_below ct_is_range_below, PySem.W.fnOf "is_source" "is_source" (defArgs s_is_source) (defBody s_is_source) (defScope s_is_source) .none kV_is_source dc_is_source pm_is_source an_is_source cd_is_source ct_is_source, PySem.W.fnOf "is_area" "is_area" (defArgs s_is_area) (defBody s_is_area) (defScope s_is_area) .none kV_is_area dc_is_area pm_is_area an_is_area cd_is_area ct_is_area, PySem.W.fnOf "is_space" "is_space" (defArgs s_is_space) (defBody s_is_space) (defScope s_is_space) .none kV_is_space dc_is_space pm_is_space an_is_space cd_is_space ct_is_space, PySem.W.fnOf "is_place" "is_place" (defArgs s_is_place) (defBody s_is_place) (defScope s_is_place) .none kV_is_place dc_is_place pm_is_place an_is_place cd_is_place ct_is_place, PySem.W.fnOf "is_call" "is_call" (defArgs s_is_call) (defBody s_is_call) (defScope s_is_call) .none kV_is_call dc_is_call pm_is_call an_is_call cd_is_call ct_is_call, PySem.W.fnOf "_law_next" "_law_next" (defArgs s__law_next) (defBody s__law_next) (defScope s__law_next) .none kV__law_next dc__law_next pm__law_next an__law_next cd__law_next ct__law_next, PySem.W.fnOf "_law_call" "_law_call" (defArgs s__law_call) (defBody s__law_call) (defScope s__law_call) .none kV__law_call dc__law_call pm__law_call an__law_call cd__law_call ct__law_call, PySem.W.fnOf "_law_bent" "_law_bent" (defArgs s__law_bent) (defBody s__law_bent) (defScope s__law_bent) .none kV__law_bent dc__law_bent pm__law_bent an__law_bent cd__law_bent ct__law_bent, PySem.W.fnOf "_law_in" "_law_in" (defArgs s__law_in) (defBody s__law_in) (defScope s__law_in) .none kV__law_in dc__law_in pm__law_in an__law_in cd__law_in ct__law_in, PySem.W.fnOf "_law_range" "_law_range" (defArgs s__law_range) (defBody s__law_range) (defScope s__law_range) .none kV__law_range dc__law_range pm__law_range an__law_range cd__law_range ct__law_range, PySem.W.fnOf "_law_source" "_law_source" (defArgs s__law_source) (defBody s__law_source) (defScope s__law_source) .none kV__law_source dc__law_source pm__law_source an__law_source cd__law_source ct__law_source, PySem.W.fnOf "_law_rights" "_law_rights" (defArgs s__law_rights) (defBody s__law_rights) (defScope s__law_rights) .none kV__law_rights dc__law_rights pm__law_rights an__law_rights cd__law_rights ct__law_rights, PySem.W.fnOf "_law_integers" "_law_integers" (defArgs s__law_integers) (defBody s__law_integers) (defScope s__law_integers) .none kV__law_integers dc__law_integers pm__law_integers an__law_integers cd__law_integers ct__law_integers, PySem.W.fnOf "_law_due" "_law_due" (defArgs s__law_due) (defBody s__law_due) (defScope s__law_due) .none kV__law_due dc__law_due pm__law_due an__law_due cd__law_due ct__law_due, PySem.W.fnOf "_law_area" "_law_area" (defArgs s__law_area) (defBody s__law_area) (defScope s__law_area) .none kV__law_area dc__law_area pm__law_area an__law_area cd__law_area ct__law_area, PySem.W.fnOf "law" "law" (defArgs s_law) (defBody s_law) (defScope s_law) .none kV_law dc_law pm_law an_law cd_law ct_law⟩ := {
    F_is_whole := fun_mk (st := s_is_whole) l_is_whole c_is_whole k_is_whole
    B_is_whole := (fun_mk (st := s_is_whole) l_is_whole c_is_whole k_is_whole).binds (ps := ["value"]) fun _ _ _ _ _ _ us hl => match us, hl with | [_], _ => rfl
    m_is_whole := PySem.W.mg_of X G a_is_whole
    F_is_number_below := fun_mk (st := s_is_number_below) l_is_number_below c_is_number_below k_is_number_below
    B_is_number_below := (fun_mk (st := s_is_number_below) l_is_number_below c_is_number_below k_is_number_below).binds (ps := ["value", "many"]) fun _ _ _ _ _ _ us hl => match us, hl with | [_, _], _ => rfl
    m_is_number_below := PySem.W.mg_of X G a_is_number_below
    F_is_tuple_of := fun_mk (st := s_is_tuple_of) l_is_tuple_of c_is_tuple_of k_is_tuple_of
    B_is_tuple_of := (fun_mk (st := s_is_tuple_of) l_is_tuple_of c_is_tuple_of k_is_tuple_of).binds (ps := ["value", "many"]) fun _ _ _ _ _ _ us hl => match us, hl with | [_, _], _ => rfl
    m_is_tuple_of := PySem.W.mg_of X G a_is_tuple_of
    F_is_range_below := fun_mk (st := s_is_range_below) l_is_range_below c_is_range_below k_is_range_below
    B_is_range_below := (fun_mk (st := s_is_range_below) l_is_range_below c_is_range_below k_is_range_below).binds (ps := ["first", "pages", "many"]) fun _ _ _ _ _ _ us hl => match us, hl with | [_, _, _], _ => rfl
    m_is_range_below := PySem.W.mg_of X G a_is_range_below
    F_is_source := fun_mk (st := s_is_source) l_is_source c_is_source k_is_source
    B_is_source := (fun_mk (st := s_is_source) l_is_source c_is_source k_is_source).binds (ps := ["value", "pages"]) fun _ _ _ _ _ _ us hl => match us, hl with | [_, _], _ => rfl
    m_is_source := PySem.W.mg_of X G a_is_source
    F_is_area := fun_mk (st := s_is_area) l_is_area c_is_area k_is_area
    B_is_area := (fun_mk (st := s_is_area) l_is_area c_is_area k_is_area).binds (ps := ["value"]) fun _ _ _ _ _ _ us hl => match us, hl with | [_], _ => rfl
    m_is_area := PySem.W.mg_of X G a_is_area
    F_is_space := fun_mk (st := s_is_space) l_is_space c_is_space k_is_space
    B_is_space := (fun_mk (st := s_is_space) l_is_space c_is_space k_is_space).binds (ps := ["value"]) fun _ _ _ _ _ _ us hl => match us, hl with | [_], _ => rfl
    m_is_space := PySem.W.mg_of X G a_is_space
    F_is_place := fun_mk (st := s_is_place) l_is_place c_is_place k_is_place
    B_is_place := (fun_mk (st := s_is_place) l_is_place c_is_place k_is_place).binds (ps := ["space", "page", "index"]) fun _ _ _ _ _ _ us hl => match us, hl with | [_, _, _], _ => rfl
    m_is_place := PySem.W.mg_of X G a_is_place
    F_is_call := fun_mk (st := s_is_call) l_is_call c_is_call k_is_call
    B_is_call := (fun_mk (st := s_is_call) l_is_call c_is_call k_is_call).binds (ps := ["value"]) fun _ _ _ _ _ _ us hl => match us, hl with | [_], _ => rfl
    m_is_call := PySem.W.mg_of X G a_is_call
    F__law_next := fun_mk (st := s__law_next) l__law_next c__law_next k__law_next
    B__law_next := (fun_mk (st := s__law_next) l__law_next c__law_next k__law_next).binds (ps := ["tape", "many"]) fun _ _ _ _ _ _ us hl => match us, hl with | [_, _], _ => rfl
    m__law_next := PySem.W.mg_of X G a__law_next
    F__law_call := fun_mk (st := s__law_call) l__law_call c__law_call k__law_call
    B__law_call := (fun_mk (st := s__law_call) l__law_call c__law_call k__law_call).binds (ps := ["tape", "spaces"]) fun _ _ _ _ _ _ us hl => match us, hl with | [_, _], _ => rfl
    m__law_call := PySem.W.mg_of X G a__law_call
    F__law_bent := fun_mk (st := s__law_bent) l__law_bent c__law_bent k__law_bent
    B__law_bent := (fun_mk (st := s__law_bent) l__law_bent c__law_bent k__law_bent).binds (ps := ["tape", "value"]) fun _ _ _ _ _ _ us hl => match us, hl with | [_, _], _ => rfl
    m__law_bent := PySem.W.mg_of X G a__law_bent
    F__law_in := fun_mk (st := s__law_in) l__law_in c__law_in k__law_in
    B__law_in := (fun_mk (st := s__law_in) l__law_in c__law_in k__law_in).binds (ps := ["value", "low", "high"]) fun _ _ _ _ _ _ us hl => match us, hl with | [_, _, _], _ => rfl
    m__law_in := PySem.W.mg_of X G a__law_in
    F__law_range := fun_mk (st := s__law_range) l__law_range c__law_range k__law_range
    B__law_range := (fun_mk (st := s__law_range) l__law_range c__law_range k__law_range).binds (ps := ["first", "pages", "many"]) fun _ _ _ _ _ _ us hl => match us, hl with | [_, _, _], _ => rfl
    m__law_range := PySem.W.mg_of X G a__law_range
    F__law_source := fun_mk (st := s__law_source) l__law_source c__law_source k__law_source
    B__law_source := (fun_mk (st := s__law_source) l__law_source c__law_source k__law_source).binds (ps := ["source", "pages"]) fun _ _ _ _ _ _ us hl => match us, hl with | [_, _], _ => rfl
    m__law_source := PySem.W.mg_of X G a__law_source
    F__law_rights := fun_mk (st := s__law_rights) l__law_rights c__law_rights k__law_rights
    B__law_rights := (fun_mk (st := s__law_rights) l__law_rights c__law_rights k__law_rights).binds (ps := ["value"]) fun _ _ _ _ _ _ us hl => match us, hl with | [_], _ => rfl
    m__law_rights := PySem.W.mg_of X G a__law_rights
    F__law_integers := fun_mk (st := s__law_integers) l__law_integers c__law_integers k__law_integers
    B__law_integers := (fun_mk (st := s__law_integers) l__law_integers c__law_integers k__law_integers).binds (ps := ["values"]) fun _ _ _ _ _ _ us hl => match us, hl with | [_], _ => rfl
    m__law_integers := PySem.W.mg_of X G a__law_integers
    F__law_due := fun_mk (st := s__law_due) l__law_due c__law_due k__law_due
    B__law_due := (fun_mk (st := s__law_due) l__law_due c__law_due k__law_due).binds (ps := ["call"]) fun _ _ _ _ _ _ us hl => match us, hl with | [_], _ => rfl
    m__law_due := PySem.W.mg_of X G a__law_due
    F__law_area := fun_mk (st := s__law_area) l__law_area c__law_area k__law_area
    B__law_area := (fun_mk (st := s__law_area) l__law_area c__law_area k__law_area).binds (ps := ["value"]) fun _ _ _ _ _ _ us hl => match us, hl with | [_], _ => rfl
    m__law_area := PySem.W.mg_of X G a__law_area
    F_law := fun_mk (st := s_law) l_law c_law k_law
    B_law := (fun_mk (st := s_law) l_law c_law k_law).binds (ps := ["script"]) fun _ _ _ _ _ _ us hl => match us, hl with | [_], _ => rfl
    m_law := PySem.W.mg_of X G a_law
    k_CELLS := ⟨_, PySem.W.mg_of X G z_CELLS, t_CELLS, rfl⟩
    k_FILES := ⟨_, PySem.W.mg_of X G z_FILES, t_FILES, rfl⟩
    k_FILE_PAGES := ⟨_, PySem.W.mg_of X G z_FILE_PAGES, t_FILE_PAGES, rfl⟩
    k_PAGES := ⟨_, PySem.W.mg_of X G z_PAGES, t_PAGES, rfl⟩
    k_SPACES := ⟨_, PySem.W.mg_of X G z_SPACES, t_SPACES, rfl⟩
    b_abs := PySem.W.mg_none_of X G z_abs
    b_bool := PySem.W.mg_none_of X G z_bool
    b_int := PySem.W.mg_none_of X G z_int
    b_isinstance := PySem.W.mg_none_of X G z_isinstance
    b_len := PySem.W.mg_none_of X G z_len
    b_list := PySem.W.mg_none_of X G z_list
    b_max := PySem.W.mg_none_of X G z_max
    b_min := PySem.W.mg_none_of X G z_min
    b_range := PySem.W.mg_none_of X G z_range
    b_str := PySem.W.mg_none_of X G z_str
    b_tuple := PySem.W.mg_none_of X G z_tuple
  }
  exact ⟨_, fun s v => .of_eq rfl, fun base _ _ => (ok_law (base := base) (P := l.prog) (w := w) T).mono (by decide)⟩
theorem walk {l : PySem.W.OpenLaw} {q : Program} {loose : List Str} {XP : (Str → Option Value) → Heap → Prop} {YP : World → Heap → Prop} {d : DefRec} {K : Params → PySem.W.Frag} (hn : l.most = some 63) (hdf : d.params.defaults = [])
    (hY : ∀ (w : World) (h : Heap), YP w h → (K w.params).In h)
    (F : ∀ (w : World) (mg : Str → Option Value) (fa : Addr) (h : Heap), (K w.params).In h → h.Ns mainGlobals mg → mg d.name = some (.ref fa) →
      ∃ fd : FuncData, (∀ (s : Shared) (u : Value), BindsTo s fd ⟨[u], []⟩ [("script", u)]) ∧ ∀ base : Heap, (K w.params).In base → base.Ns mainGlobals mg → FnOk l.prog w (K w.params) mg base CX0 9 fa fd ["script"] (spLaw (K w.params))) :
    PySem.W.WalkO q loose XP YP l.row.toRowW d [] (fun f vs => PySem.call f vs) :=
  L2.walk_of (n := 63) (k := 9) (x := "script") (CX := fun _ => CX0) (sp := fun w => spLaw (K w.params)) hn (by decide) hdf ⟨rfl, by decide, by decide⟩ hY F (fun _ _ a ns hl _ hS => ⟨a, ns, rfl, hS, hl, fun _ => rfl⟩) fun _ _ _ _ _ z => z
end K14

open PySem PySem.W PyProof.Rows in
set_option maxRecDepth 100000 in
set_option maxHeartbeats 0 in
theorem PySem.Challenge.cw_frametally_k14_what_is_an_area_and_a_cal_holds : PySem.Challenge.rw_frametally_k14_what_is_an_area_and_a_cal.Holds := by
  w_on; o_law; k_head; (case hw => w_witness2)
  k_fill
  refine K14.walk (l := PySem.Challenge.rw_frametally_k14_what_is_an_area_and_a_cal) rfl rfl (fun w h Y => PySem.W.kIn_of Y) ?F
  case F =>
    intro w mg fa h KX G hmg
    refine' K14.all_mk KX G hmg ?a_is_whole ?l_is_whole ?c_is_whole ?k_is_whole ?a_is_number_below ?l_is_number_below ?c_is_number_below ?k_is_number_below ?a_is_tuple_of ?l_is_tuple_of ?c_is_tuple_of ?k_is_tuple_of ?a_is_range_below ?l_is_range_below ?c_is_range_below ?k_is_range_below ?a_is_source ?l_is_source ?c_is_source ?k_is_source ?a_is_area ?l_is_area ?c_is_area ?k_is_area ?a_is_space ?l_is_space ?c_is_space ?k_is_space ?a_is_place ?l_is_place ?c_is_place ?k_is_place ?a_is_call ?l_is_call ?c_is_call ?k_is_call ?a__law_next ?l__law_next ?c__law_next ?k__law_next ?a__law_call ?l__law_call ?c__law_call ?k__law_call ?a__law_bent ?l__law_bent ?c__law_bent ?k__law_bent ?a__law_in ?l__law_in ?c__law_in ?k__law_in ?a__law_range ?l__law_range ?c__law_range ?k__law_range ?a__law_source ?l__law_source ?c__law_source ?k__law_source ?a__law_rights ?l__law_rights ?c__law_rights ?k__law_rights ?a__law_integers ?l__law_integers ?c__law_integers ?k__law_integers ?a__law_due ?l__law_due ?c__law_due ?k__law_due ?a__law_area ?l__law_area ?c__law_area ?k__law_area ?a_law ?l_law ?c_law ?k_law ?z_CELLS ?z_FILES ?z_FILE_PAGES ?z_PAGES ?z_SPACES ?z_abs ?z_bool ?z_int ?z_isinstance ?z_len ?z_list ?z_max ?z_min ?z_range ?z_str ?z_tuple
    (case a_is_whole => k_is)
    (case l_is_whole => k_is)
    (case c_is_whole => k_is)
    (case k_is_whole => k_is)
    (case a_is_number_below => k_is)
    (case l_is_number_below => k_is)
    (case c_is_number_below => k_is)
    (case k_is_number_below => k_is)
    (case a_is_tuple_of => k_is)
    (case l_is_tuple_of => k_is)
    (case c_is_tuple_of => k_is)
    (case k_is_tuple_of => k_is)
    (case a_is_range_below => k_is)
    (case l_is_range_below => k_is)
    (case c_is_range_below => k_is)
    (case k_is_range_below => k_is)
    (case a_is_source => k_is)
    (case l_is_source => k_is)
    (case c_is_source => k_is)
    (case k_is_source => k_is)
    (case a_is_area => k_is)
    (case l_is_area => k_is)
    (case c_is_area => k_is)
    (case k_is_area => k_is)
    (case a_is_space => k_is)
    (case l_is_space => k_is)
    (case c_is_space => k_is)
    (case k_is_space => k_is)
    (case a_is_place => k_is)
    (case l_is_place => k_is)
    (case c_is_place => k_is)
    (case k_is_place => k_is)
    (case a_is_call => k_is)
    (case l_is_call => k_is)
    (case c_is_call => k_is)
    (case k_is_call => k_is)
    (case a__law_next => k_is)
    (case l__law_next => k_is)
    (case c__law_next => k_is)
    (case k__law_next => k_is)
    (case a__law_call => k_is)
    (case l__law_call => k_is)
    (case c__law_call => k_is)
    (case k__law_call => k_is)
    (case a__law_bent => k_is)
    (case l__law_bent => k_is)
    (case c__law_bent => k_is)
    (case k__law_bent => k_is)
    (case a__law_in => k_is)
    (case l__law_in => k_is)
    (case c__law_in => k_is)
    (case k__law_in => k_is)
    (case a__law_range => k_is)
    (case l__law_range => k_is)
    (case c__law_range => k_is)
    (case k__law_range => k_is)
    (case a__law_source => k_is)
    (case l__law_source => k_is)
    (case c__law_source => k_is)
    (case k__law_source => k_is)
    (case a__law_rights => k_is)
    (case l__law_rights => k_is)
    (case c__law_rights => k_is)
    (case k__law_rights => k_is)
    (case a__law_integers => k_is)
    (case l__law_integers => k_is)
    (case c__law_integers => k_is)
    (case k__law_integers => k_is)
    (case a__law_due => k_is)
    (case l__law_due => k_is)
    (case c__law_due => k_is)
    (case k__law_due => k_is)
    (case a__law_area => k_is)
    (case l__law_area => k_is)
    (case c__law_area => k_is)
    (case k__law_area => k_is)
    (case a_law => k_is)
    (case l_law => k_is)
    (case c_law => k_is)
    (case k_law => k_is)
    (case z_CELLS => k_is)
    (case z_FILES => k_is)
    (case z_FILE_PAGES => k_is)
    (case z_PAGES => k_is)
    (case z_SPACES => k_is)
    (case z_abs => k_is)
    (case z_bool => k_is)
    (case z_int => k_is)
    (case z_isinstance => k_is)
    (case z_len => k_is)
    (case z_list => k_is)
    (case z_max => k_is)
    (case z_min => k_is)
    (case z_range => k_is)
    (case z_str => k_is)
    (case z_tuple => k_is)
