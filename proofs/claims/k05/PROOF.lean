import PyProof.Rows.All
import Wide.All
import OpenK.AllK
import Wide.FinOn
import HandS.ForExc
import HandS.Comp
import HandS.IsInst
import HandS.ExcInit
import HandS.ExcIs
import HandS.CallSlots
import HandS.TupAny
import PySem.Challenge.RW_frametally_k05_letters
set_option Elab.async false
set_option linter.all false
set_option maxRecDepth 100000
set_option maxHeartbeats 4000000
/-! Data that stands in the heap (None, bools, ints, texts, lists, tuples): how it stays, what shape it has, its type. -/
namespace Dk
open PySem PySem.Spec PyProof.Rows L2

theorem Same.tupS {K : PySem.W.Frag} {H H' : Hp} {a : Addr} {xs : List V} (e : Same H H') (h : SqT K H a xs) : SqT K H' a xs := by
  rcases h with (h | ⟨o, h⟩) | h
  · exact .inl (.inl (e _ _ h))
  · exact .inl (.inr ⟨o, e _ _ h⟩)
  · exact .inr h
theorem Same.new {H : Hp} {p : Addr} {o : HO} (h : H p = none) : Same H (upd H p o) := fun b u e => (upd_ne (ne_of_none e h)).trans e
/-- an object that H does not track may be written -/
theorem Same.put {H H' : Hp} {p : Addr} {o : HO} (e : Same H H') (h : H p = none) : Same H (upd H' p o) := fun b u k => (upd_ne (ne_of_none k h)).trans (e b u k)

mutual
theorem dp_mono {K : PySem.W.Frag} {H H' : Hp} (e : Same H H') : ∀ {d : PyData} {v : V}, Dp K H v d → Dp K H' v d
  | .none, _, h => by cases h; exact .non
  | .bool b, _, h => by cases h; exact .bl b
  | .int i, _, h => by cases h; exact .int i
  | .str x, _, h => by cases h; exact .str x
  | .list ds, _, h => by
    cases h with
    | lst s q => exact .lst (e.seq s) (dpAll_mono e q)
  | .tuple ds, _, h => by
    cases h with
    | tup s q => exact .tup (Same.tupS e s) (dpAll_mono e q)
  | .dict _, _, h => by cases h
theorem dpAll_mono {K : PySem.W.Frag} {H H' : Hp} (e : Same H H') : ∀ {ds : List PyData} {vs : List V}, DpAll K H vs ds → DpAll K H' vs ds
  | [], _, h => by cases h; exact .nil
  | d :: ds, _, h => by
    cases h with
    | cons a b => exact .cons (dp_mono e a) (dpAll_mono e b)
end
section
variable {K : PySem.W.Frag} {H : Hp}
theorem dpAll_app : ∀ {xs ys : List V} {ds es : List PyData}, DpAll K H xs ds → DpAll K H ys es → DpAll K H (xs ++ ys) (ds ++ es)
  | _, _, _, _, .nil, q => q
  | _, _, _, _, .cons a b, q => .cons a (dpAll_app b q)
theorem dpAll_len : ∀ {xs : List V} {ds : List PyData}, DpAll K H xs ds → xs.length = ds.length
  | _, _, .nil => rfl
  | _, _, .cons _ b => congrArg (· + 1) (dpAll_len b)
theorem dpAll_drop : ∀ {xs : List V} {ds : List PyData} (n : Nat), DpAll K H xs ds → DpAll K H (xs.drop n) (ds.drop n)
  | _, _, 0, q => q
  | _, _, n + 1, .nil => .nil
  | _, _, n + 1, .cons _ b => dpAll_drop n b
theorem dpAll_get : ∀ {xs : List V} {ds : List PyData} {i : Nat} {v : V}, DpAll K H xs ds → xs[i]? = some v → ∃ d, ds[i]? = some d ∧ Dp K H v d
  | _, _, _, _, .nil, e => by simp at e
  | _, _, 0, _, .cons a _, e => by
    simp at e
    subst e
    exact ⟨_, rfl, a⟩
  | _, _, i + 1, _, .cons _ b, e => by
    obtain ⟨d, h1, h2⟩ := dpAll_get (i := i) b (by simpa using e)
    exact ⟨d, by simpa using h1, h2⟩
theorem dpAll_ints (ns : List Int) : DpAll K H (ns.map V.int) (ns.map PyData.int) := by
  induction ns with
  | nil => exact .nil
  | cons n ns ih => exact .cons (.int n) ih
end

theorem take_snoc {α : Type} : ∀ {l : List α} {i : Nat} {x : α}, l[i]? = some x → l.take (i + 1) = l.take i ++ [x]
  | [], _, _, h => by simp at h
  | y :: l, 0, _, h => by
    simp at h
    subst h
    rfl
  | y :: l, i + 1, _, h => by
    have ih := take_snoc (l := l) (i := i) (by simpa using h)
    rw [List.take_succ_cons, ih, List.take_succ_cons]
    rfl

theorem ifF {c : Bool} {A B : Prop} (h : c = false) (b : B) : if c = true then A else B := by
  rw [h]
  exact iteF b
theorem ifT {c : Bool} {A B : Prop} (h : c = true) (b : A) : if c = true then A else B := by
  rw [h]
  exact iteT b
theorem upd_comm {H : Hp} {a b : Addr} {o u : HO} (h : a ≠ b) : upd (upd H a o) b u = upd (upd H b u) a o := by
  funext c
  by_cases ca : c = a
  · rw [ca, upd_ne h, upd_same, upd_same]
  · by_cases cb : c = b
    · rw [cb, upd_same, upd_ne (Ne.symm h), upd_same]
    · rw [upd_ne cb, upd_ne ca, upd_ne ca, upd_ne cb]
theorem upd_self {H : Hp} {a : Addr} {o : HO} (h : H a = some o) : upd H a o = H := by
  funext c
  by_cases ca : c = a
  · rw [ca, upd_same, h]
  · rw [upd_ne ca]

theorem cut1 (xs : List V) : cutV xs (some 1) none = xs.drop 1 := by
  unfold cutV
  have e1 : HT.sIx xs.length 0 (some 1) = min 1 xs.length := HT.sIx_nat xs.length 0 1
  rw [e1, HT.sIx_none]
  cases xs with
  | nil => rfl
  | cons x xs =>
    rw [show min 1 (x :: xs).length = 1 by simp only [List.length_cons]; omega]
    exact List.take_of_length_le (by rw [List.length_drop]; omega)

/-- a new object beside a list under construction at D -/
theorem new_under {G : Hp} {D p : Addr} {u o : HO} (gD : G D = none) (h : upd G D u p = none) : upd (upd G D u) p o = upd (upd G p o) D u ∧ G p = none ∧ upd G p o D = none := by
  have ne : p ≠ D := fun e => by
    rw [e, upd_same] at h
    cases h
  exact ⟨upd_comm (Ne.symm ne), (upd_ne ne).symm.trans h, (upd_ne (Ne.symm ne)).trans gD⟩

/-! ### tuples stay, whatever is written elsewhere -/
def IsT : HO → Prop
  | .tup _ => True
  | .frz _ u => IsT u
  | _ => False
def KT (H H' : Hp) : Prop := ∀ b o, H b = some o → IsT o → H' b = some o
theorem KT.refl (H : Hp) : KT H H := fun _ _ h _ => h
theorem KT.trans {H H1 H2 : Hp} (a : KT H H1) (b : KT H1 H2) : KT H H2 := fun c o h k => b c o (a c o h k) k
theorem KT.of {H H' : Hp} (e : Same H H') : KT H H' := fun b o h _ => e b o h
theorem KT.put {H : Hp} {a : Addr} {u : HO} (h : ∀ o, H a = some o → ¬ IsT o) : KT H (upd H a u) := fun b o e k => by
  have ne : b ≠ a := fun z => h o (z ▸ e) k
  rw [upd_ne ne]
  exact e
theorem KT.lst {H : Hp} {a : Addr} {xs : List V} {u : HO} (h : H a = some (.lst xs)) : KT H (upd H a u) := KT.put fun o e k => by
  rw [h] at e
  cases e
  exact k
theorem KT.ins {H : Hp} {a C dx : Addr} {fs : List (Str × V)} {u : HO} (h : H a = some (.ins C dx fs)) : KT H (upd H a u) := KT.put fun o e k => by
  rw [h] at e
  cases e
  exact k
theorem KT.new {H : Hp} {a : Addr} {u : HO} (h : H a = none) : KT H (upd H a u) := KT.of (Same.new h)
theorem KT.tupS {K : PySem.W.Frag} {H H' : Hp} {a : Addr} {xs : List V} (e : KT H H') (h : SqT K H a xs) : SqT K H' a xs := by
  rcases h with (h | ⟨o, h⟩) | h
  · exact .inl (.inl (e _ _ h True.intro))
  · exact .inl (.inr ⟨o, e _ _ h True.intro⟩)
  · exact .inr h
mutual
/-- no list, no dict within -/
def noL : PyData → Bool
  | .none => true
  | .bool _ => true
  | .int _ => true
  | .str _ => true
  | .list _ => false
  | .dict _ => false
  | .tuple ds => noLs ds
def noLs : List PyData → Bool
  | [] => true
  | d :: ds => noL d && noLs ds
end
mutual
theorem dp_keep {K : PySem.W.Frag} {H H' : Hp} (e : KT H H') : ∀ {d : PyData} {v : V}, noL d = true → Dp K H v d → Dp K H' v d
  | .none, _, _, h => by cases h; exact .non
  | .bool b, _, _, h => by cases h; exact .bl b
  | .int i, _, _, h => by cases h; exact .int i
  | .str x, _, _, h => by cases h; exact .str x
  | .list ds, _, n, h => by simp [noL] at n
  | .tuple ds, _, n, h => by
    cases h with
    | tup s q => exact .tup (e.tupS s) (dpAll_keep e (by simpa [noL] using n) q)
  | .dict _, _, _, h => by cases h
theorem dpAll_keep {K : PySem.W.Frag} {H H' : Hp} (e : KT H H') : ∀ {ds : List PyData} {vs : List V}, noLs ds = true → DpAll K H vs ds → DpAll K H' vs ds
  | [], _, _, h => by cases h; exact .nil
  | d :: ds, _, n, h => by
    cases h with
    | cons a b =>
      have n2 : noL d = true ∧ noLs ds = true := by simpa [noLs] using n
      exact .cons (dp_keep e n2.1 a) (dpAll_keep e n2.2 b)
end
theorem noLs_of : ∀ {ds : List PyData}, (∀ d ∈ ds, noL d = true) → noLs ds = true
  | [], _ => by simp only [noLs]
  | d :: ds, h => by
    simp only [noLs, h d (List.mem_cons_self ..), noLs_of fun x hx => h x (List.mem_cons_of_mem _ hx), Bool.and_self]
theorem noL_tup {ds : List PyData} (h : ∀ d ∈ ds, noL d = true) : noL (.tuple ds) = true := by
  simp only [noL]
  exact noLs_of h

/-! ### shapes -/
structure Sh (n : Nat) (d : PyData) : Prop where
  lay : d.canLay0 = true
  deep : d.depth ≤ n
theorem Sh.up {n m : Nat} {d : PyData} (h : Sh n d) (k : n ≤ m) : Sh m d := ⟨h.lay, Nat.le_trans h.deep k⟩
theorem sh_none : Sh 0 .none := ⟨by simp only [PyData.canLay0], by simp only [PyData.depth]; omega⟩
theorem sh_int (i : Int) : Sh 0 (.int i) := ⟨by simp only [PyData.canLay0], by simp only [PyData.depth]; omega⟩
theorem sh_bool (b : Bool) : Sh 0 (.bool b) := ⟨by simp only [PyData.canLay0], by simp only [PyData.depth]; omega⟩
theorem sh_all {n : Nat} : ∀ {ds : List PyData}, (∀ d ∈ ds, Sh n d) → PyData.canLayAll0 ds = true ∧ PyData.depthAll ds ≤ n
  | [], _ => ⟨by simp only [PyData.canLayAll0], by simp only [PyData.depthAll]; omega⟩
  | d :: ds, h => by
    have h1 := h d (List.mem_cons_self ..)
    obtain ⟨h2, h3⟩ := sh_all (n := n) (ds := ds) fun x hx => h x (List.mem_cons_of_mem _ hx)
    exact ⟨by simp only [PyData.canLayAll0, h1.lay, h2, Bool.and_self], by simp only [PyData.depthAll]; exact Nat.max_le.mpr ⟨h1.deep, h3⟩⟩
theorem sh_tup {n : Nat} {ds : List PyData} (h : ∀ d ∈ ds, Sh n d) : Sh (n + 1) (.tuple ds) := by
  obtain ⟨h1, h2⟩ := sh_all h
  exact ⟨by simp only [PyData.canLay0]; exact h1, by simp only [PyData.depth]; omega⟩
theorem sh_lst {n : Nat} {ds : List PyData} (h : ∀ d ∈ ds, Sh n d) : Sh (n + 1) (.list ds) := by
  obtain ⟨h1, h2⟩ := sh_all h
  exact ⟨by simp only [PyData.canLay0]; exact h1, by simp only [PyData.depth]; omega⟩
theorem Sh.ok {n : Nat} {d : PyData} (h : Sh n d) (k : n ≤ 64 := by decide) : SeqAt.shaped d = true := by
  unfold SeqAt.shaped
  rw [h.lay, decide_eq_true (Nat.le_trans h.deep k)]
  rfl
theorem Sh.refl {n : Nat} {d : PyData} (h : Sh n d) : PyData.eqv d d = true := SeqAt.eqv_refl d h.lay

/-! ### types -/
def tyN : PyData → String
  | .none => "NoneType"
  | .bool _ => "bool"
  | .int _ => "int"
  | .str _ => "str"
  | .list _ => "list"
  | .tuple _ => "tuple"
  | .dict _ => "dict"
theorem tyx {K : PySem.W.Frag} {H : Hp} {v : V} {d : PyData} (h : Dp K H v d) : TyX K H v (.type (tyN d)) := by
  cases h with
  | non => exact .base .non
  | bl b => exact .base (.bl b)
  | int i => exact .base (.int i)
  | str x => exact .base (.str x)
  | lst s _ =>
    rcases s with (s | ⟨o, s⟩) | s
    · exact .base (.lst s)
    · exact .base (.frz s)
    · obtain ⟨o, _, _, h1, h2, _⟩ := s
      exact .kList h1 h2
  | tup s _ =>
    rcases s with (s | ⟨o, s⟩) | s
    · exact .base (.tup s)
    · exact .fTuple s
    · obtain ⟨o, _, _, h1, h2, _⟩ := s
      exact .kTuple h1 h2

/-! ### isinstance over data -/
def isInt : PyData → Bool
  | .int _ => true
  | .bool _ => true
  | _ => false
def isBool : PyData → Bool
  | .bool _ => true
  | _ => false
def isTup : PyData → Bool
  | .tuple _ => true
  | _ => false
def isLst : PyData → Bool
  | .list _ => true
  | _ => false
def kits (c : String) : List (Option Bool) := ["NoneType", "bool", "int", "str", "list", "tuple", "dict"].map fun t => kitB t c
theorem kits_at {c : String} {b0 b1 b2 b3 b4 b5 b6 : Bool} (h : kits c = [some b0, some b1, some b2, some b3, some b4, some b5, some b6]) (d : PyData) :
    kitB (tyN d) c = some (match d with | .none => b0 | .bool _ => b1 | .int _ => b2 | .str _ => b3 | .list _ => b4 | .tuple _ => b5 | .dict _ => b6) := by
  simp only [kits, List.map_cons, List.map_nil, List.cons.injEq, and_true] at h
  obtain ⟨h0, h1, h2, h3, h4, h5, h6⟩ := h
  cases d
  · exact h0
  · exact h1
  · exact h2
  · exact h3
  · exact h4
  · exact h5
  · exact h6
section
variable {K : PySem.W.Frag}
theorem kit_int (d : PyData) : PySem.W.kitOne K (.type (tyN d)) (.type "int") = some (isInt d) := by
  refine (kit_ty (kits_at (by decide +kernel : kits "int" = [some false, some true, some true, some false, some false, some false, some false]) d)).trans ?_
  cases d <;> rfl
theorem kit_bool (d : PyData) : PySem.W.kitOne K (.type (tyN d)) (.type "bool") = some (isBool d) := by
  refine (kit_ty (kits_at (by decide +kernel : kits "bool" = [some false, some true, some false, some false, some false, some false, some false]) d)).trans ?_
  cases d <;> rfl
theorem kit_tup (d : PyData) : PySem.W.kitOne K (.type (tyN d)) (.type "tuple") = some (isTup d) := by
  refine (kit_ty (kits_at (by decide +kernel : kits "tuple" = [some false, some false, some false, some false, some false, some true, some false]) d)).trans ?_
  cases d <;> rfl
theorem kit_lst (d : PyData) : PySem.W.kitOne K (.type (tyN d)) (.type "list") = some (isLst d) := by
  refine (kit_ty (kits_at (by decide +kernel : kits "list" = [some false, some false, some false, some false, some true, some false, some false]) d)).trans ?_
  cases d <;> rfl
end
end Dk
/-! An own error class over ValueError that is made without an argument and keeps no field: C(), its __init__ walked as a def. -/
namespace Ek
open PySem PySem.Spec PyProof.Rows L2
section
variable {X : Cx} {a C : Addr} {p pos : Pos}

/-- behind C(): the error at a is let go, nothing else of the heap has changed its tracking -/
theorem let_go {pins : List (Addr × Obj)} {σ : L2.St} {H1 H2 : Hp} {u v w2 : Heap} {gA gB : Array GenState} {dA dB : Drawn} {tA tB : Nat} {oA oB : OsState}
    (I1 : Inv X pins σ H1 ⟨u, gA, dA, tA, oA⟩) (ha : u.objs.size ≤ a) (kp : ∀ b o, u.get? b = some o → v.get? b = some o)
    (un : Un (frs X.stack) [] (upd H1 a (exo a C none)) H2 v w2) (ok2 : HOk X.prog X.w H2 w2) (eo : oB = oA) (bare : AllBare gB) (ea : H2 a = some (exo a C none)) :
    ∃ (t0 : Addr) (G : Heap), Inv X pins σ (del H2 a) ⟨G, gB, dB, tB, oB⟩ ∧ (∀ b o, G.get? b = some o → w2.get? b = some o) ∧ G.get? a = none ∧
      w2.get? a = some ({ cls := .ref C, dict := none, data := .fields #[.ref t0, .none, .none, .none, .bool false, .none] } : Obj) := by
  obtain ⟨t0, he⟩ := exo_at ok2 ea
  have hn : H1 a = none := I1.hok.fresh ha
  obtain ⟨G, gIn, gOut⟩ := restrict w2 (fun b => decide (b ≠ a))
  have same : ∀ b, b ≠ a → G.get? b = w2.get? b := fun b hb => gIn b (decide_eq_true hb)
  have gone : G.get? a = none := gOut a (by simp)
  have old : ∀ {b : Addr} {o : Obj}, u.get? b = some o → b ≠ a := fun {b o} z => Nat.ne_of_lt (Nat.lt_of_lt_of_le (Heap.lt_size z) ha)
  have up : ∀ {b : Addr}, b ≠ a → H1 b = none → upd H1 a (exo a C none) b = none := fun {b} hb n => (upd_ne hb).trans n
  have U : Un (frs X.stack) [] H1 (del H2 a) u G :=
    { keep := fun b o z n hf hx => (same b (old z)).trans (un.keep b o (kp b o z) (up (old z) n) hf hx)
      slot := fun b o z n hf hx => by
        obtain ⟨sl, e⟩ := un.slot b o (kp b o z) (up (old z) n) hf hx
        exact ⟨sl, (same b (old z)).trans e⟩
      free := fun b o z n hx => (del_ne (old z)).trans (un.free b o (kp b o z) (up (old z) n) hx)
      there := fun b o z hx => by
        obtain ⟨o2, e⟩ := un.there b o (kp b o z) hx
        exact ⟨o2, (same b (old z)).trans e⟩
      tups := fun b xs z => (del_ne (ne_of_none z hn)).trans (un.tups b xs ((upd_ne (ne_of_none z hn)).trans z))
      frzs := fun b o y z => (del_ne (ne_of_none z hn)).trans (un.frzs b o y ((upd_ne (ne_of_none z hn)).trans z))
      tbls := fun b ps z => by
        obtain ⟨more, e⟩ := un.tbls b ps ((upd_ne (ne_of_none z hn)).trans z)
        exact ⟨more, (del_ne (ne_of_none z hn)).trans e⟩ }
  have noa : ∀ {b c : Addr}, H2 c = some (.own b) → c ≠ a := fun {b c} hc => at_ne ea hc exo_own
  have ok3 : HOk X.prog X.w (del H2 a) G := fun b o z => by
    have hba : b ≠ a := fun e => by
      rw [e, del_same] at z
      cases z
    rw [del_ne hba] at z
    refine (ok2 b o z).stay (fun c y hc q => ?_) (fun c hc => (del_ne (noa hc)).trans hc) (fun c xs hc => (del_ne (at_ne ea hc exo_tup)).trans hc)
    have hca : c ≠ a := by
      rcases hc with hc | hc
      · exact hc ▸ hba
      · exact noa hc
    exact (same c hca).trans q
  refine ⟨t0, G, I1.call' (ch := []) eo U ok3 bare (fun b z => absurd z (by simp)), fun b o z => ?_, gone, he⟩
  by_cases hba : b = a
  · rw [hba, gone] at z
    cases z
  · exact (same b hba).symm.trans z

/-- C(), where __init__ sets nothing -/
def tMk0 (C : Addr) (sp : Sp) : L2.St → Hp → XK → Prop := fun _ H Q => ∀ a, H a = none →
  sp [.ref a] (upd H a (exo a C none)) (fun v H2 => v = .non ∧ H2 a = some (exo a C none) ∧ Q (.ref C) none (del H2 a)) (fun _ _ _ => False)
theorem mk_exc0 {CX : CXT} {x : Str} {C fI : Addr} {k : Nat} {fd : FuncData} {ps : List Str} {sp : Sp} (T : OexC X.K C)
    (iC : PySem.W.findIn X.K (.ref C) "__init__" = some (some (.ref fI))) (tI : PySem.W.typeIn X.K (.ref fI) = some (.type "function"))
    (F1 : FnOk X.prog X.w X.K X.mg X.base CX k fI fd ps sp) (hr : Room (k + 1) X.A) (hb : Binds X.K fd ps []) (hx : Passes CX X (fun _ _ _ => False))
    (hg : Gl X x) (hm : X.mg x = some (.ref C)) (hdb : (x == ("__debug__" : Str)) = false := by decide) :
    PMk X (.Call (.Name x p) [] [] pos) (tMk0 C sp) := by
  intro pins s σ H Q I h
  obtain ⟨nm, q, N, bs, bm, sn, sub, ab, col, dd, k0, k1, k2, k3, k5, hC, hbm⟩ := T.cls
  refine wpAny_Call_Name_kw (ld_glob I hg hm ?_ hdb)
  refine PySem.W.callWith_K0 I.kIn T.kC ?_
  show wpAny _ _ (call (.ref C) []) _ _ _
  obtain ⟨hp, g, dr, tk, os⟩ := s
  have hsz : hp.objs.size ≤ hp.objs.size + 1 := Nat.le_succ _
  have hn : H (hp.objs.size + 1) = none := I.hok.fresh hsz
  have want := h (hp.objs.size + 1) hn
  have keep2 : ∀ b o, hp.get? b = some o → ((hp.push (PySem.W.kdv_tup [])).push (PySem.HandSPX.excO C hp.objs.size)).get? b = some o :=
    fun b o e => Heap.get?_push_of_some _ (Heap.get?_push_of_some _ e)
  have atE : ((hp.push (PySem.W.kdv_tup [])).push (PySem.HandSPX.excO C hp.objs.size)).get? (hp.objs.size + 1) = some (PySem.HandSPX.excO C hp.objs.size) := by heap_get
  have I2 : Inv X pins σ (upd H (hp.objs.size + 1) (exo (hp.objs.size + 1) C none)) ⟨(hp.push (PySem.W.kdv_tup [])).push (PySem.HandSPX.excO C hp.objs.size), g, dr, tk, os⟩ :=
    I.laid (t' := tk) (a := hp.objs.size + 1) (o := exo (hp.objs.size + 1) C none) (h' := (hp.push (PySem.W.kdv_tup [])).push (PySem.HandSPX.excO C hp.objs.size)) keep2 hsz (exo_ok atE)
  have r2 : Vals [V.ref (hp.objs.size + 1)] [Value.ref (hp.objs.size + 1)] := .cons rfl .nil
  have len1 : ([Value.ref (hp.objs.size + 1)] : List Value).length = ps.length := by
    have e := r2.length
    rw [F1.len _ _ _ _ want] at e
    exact e.symm
  refine wpAny_call (PySem.HandSPX.call_own (rest := []) F.excBase_ValueError (fun Y => PySem.HandSPX.refsVE_contains Y bm hbm) (I.kIn _ _ hC) (PySem.W.looks_findIn I.kIn iC)
    (fun self => PySem.W.bind_fn I.kIn self tI) (Nat.zero_le _) (codeAny_mono (F1.run _ X.stack _ _ ⟨[Value.ref (hp.objs.size + 1)], []⟩ [Value.ref (hp.objs.size + 1)] _ _ (fun _ _ _ => False)
      (hr.make C [] []) (I2.env0.make C [] []) (hb _ [Value.ref (hp.objs.size + 1)] I2.kIn len1) r2 want) fun r s2 back => ?_))
  cases r with
  | error er => exact hx pins σ _ _ er s2 I2 back
  | ok fl =>
    cases fl with
    | ret y =>
      obtain ⟨v, H2, os2, bare2, un2, hok2, rv, ev, ea, wish⟩ := back
      subst ev
      obtain ⟨h2, g2, d2, t2, o2⟩ := s2
      obtain ⟨t0, G, J, kG, gone, there⟩ := let_go (dB := d2) (tB := t2) I hsz keep2 un2 hok2 os2 bare2 ea
      exact ⟨rv, ⟨_, _, _, ⟨G, g2, d2, t2, o2⟩, _, .ref C, none, rfl, J, kG, gone, there, ⟨rfl, rfl⟩, rfl, rfl, del_same, rfl, bare2, raises_own T.exC T.tyC, wish⟩⟩
    | next => exact back.elim
    | brk => exact back.elim
    | cont => exact back.elim
end

section
variable {X : Cx} {CX : CXT} {k : Nat} {f C : Addr} {fd : FuncData} {ps : List Str} {sp : Sp} {E : L2.St → XK} {m : Str} {apos pos : Pos} {e o : Expr} {es : List Expr} {ta : TE} {t : TA}
/-- o.m(e, ..), where what is raised is wished for at the caller's slots -/
def tMethW (C : Addr) (m : Str) (sp : Sp) (E : L2.St → XK) (ta : TE) (t : TA) : TE := fun σ H Q => ta σ H fun x H1 =>
  ∃ a dx fs, x = .ref a ∧ H1 a = some (.ins C dx fs) ∧ fs.lookup m = none ∧ t σ H1 fun vs H2 => sp (x :: vs) H2 Q (E σ)
theorem pe_methW {pl : Sem Bool} (he : PE X o ta) (c : Cls X.K C) (hm : Meth X.K C m f) (F : FnOk X.prog X.w X.K X.mg X.base CX k f fd ps sp) (hr : Room k X.A) (hb : Binds X.K fd ps [])
    (hx : ∀ σ, PassesAt CX X σ (E σ)) (ha : PA X (e :: es) t)
    (hst : starEach (e :: es) X.env = (false, eval e X.env) :: starEach es X.env := by rfl) (hpl : (backTo pos (starEach es X.env)).any (·.1) = false := by rfl)
    (ht : eval (.Call (.Attribute o m apos) (e :: es) [] pos) X.env = (do
      let ov ← eval o X.env
      standAt apos.atName
      let fr ← holding [ov] (getMethod ov m pl)
      callWith pos fr.1 fr.2 (backTo pos (starEach (e :: es) X.env)) (backToKw pos (keywordEach [] X.env))) := by rfl) :
    PE X (.Call (.Attribute o m apos) (e :: es) [] pos) (tMethW C m sp E ta t) := by
  refine ⟨fun pins s σ H Q I h => ?_⟩
  refine PySem.W.methodCall_KW (pl := pl) (thn (he.run pins s σ H _ I h) fun u s1 ⟨x, H1, I1, rx, a, dx, fs, ex, ea, l, q⟩ => ?_) ht
  subst ex
  obtain rfl : u = Value.ref a := rx
  refine getmeth_ok I1 ea c hm l ?_
  refine PySem.W.callWith_K (first := [.ref a]) (h₀ := X.base) I.ok.mod.kin hm.kp (thn (ha.run pos pins s1 σ H1 _ I1 q) fun us s2 ⟨vs, H2, I2, r, q2⟩ => ⟨I2.kIn, ?_⟩) hst hpl
  exact run_fnS (us := .ref a :: us) (vs := .ref a :: vs) F hr hb (hx σ) I2 (.cons rfl r) q2
end

theorem hu65 {k : Nat} {A : Around} (hr : Room k A) : A.units + 65 < cLine := by
  have := hr.un
  omega
/-- a module's constant -/
theorem pe_con {X : Cx} {x : Str} {pos : Pos} {v : V} (hg : Gl X x) (h : ∃ u, X.mg x = some u ∧ RelV v u) (hdb : (x == ("__debug__" : Str)) = false := by decide) : PE X (.Name x pos) (tC v) := by
  obtain ⟨u, h1, h2⟩ := h
  exact pe_glob hg h1 h2 hdb
/-- a statement and what follows it, joined by a word of one's own: what follows is read once, whatever way led there -/
def tMid (t u : TS) : TS := fun D σ H => ∃ M : L2.St → Hp → Prop, t { D with nx := M } σ H ∧ ∀ σ2 H2, M σ2 H2 → u D σ2 H2
theorem pss_mid {X : Cx} {st : Stmt} {more : List Stmt} {t u : TS} (hs : PS X st t) (hm : PSs X more u) : PSs X (st :: more) (tMid t u) := ⟨fun pins s σ H D I ⟨M, hM, hu⟩ =>
  wpAny_execs_cons (thn (hs.run pins s σ H { D with nx := M } I hM) fun f s2 back => by
    cases f with
    | next =>
      obtain ⟨σ2, H2, I2, y⟩ := back
      exact hm.run pins s2 σ2 H2 D I2 (hu σ2 H2 y)
    | ret v => exact back
    | brk => exact back
    | cont => exact back)⟩
/-- a block that is walked under a condition which its reading brings -/
theorem pss_under {X : Cx} {sts : List Stmt} {P : Prop} {t : TS} (h : P → PSs X sts t) : PSs X sts (fun D σ H => P ∧ t D σ H) :=
  ⟨fun pins s σ H D I q => (h q.1).run pins s σ H D I q.2⟩
end Ek
namespace K05
open PySem L2 Dk Ek
def top (i : Nat) : Stmt := PySem.Challenge.pw_frametally_k05_letters.main.body.getD i (.Pass ⟨0, 0, 0, 0⟩)
abbrev s_PageError_init : Stmt := inClass (top 1) 0
abbrev s_is_whole : Stmt := top 6
abbrev s_is_number_below : Stmt := top 7
abbrev s_is_tuple_of : Stmt := top 8
abbrev s_is_pair : Stmt := top 9
abbrev s_is_letter : Stmt := top 10
abbrev s_Box_init : Stmt := inClass (top 11) 0
abbrev s_Box_send : Stmt := inClass (top 11) 1
abbrev s_Box_take : Stmt := inClass (top 11) 2
abbrev s_Box_letters : Stmt := inClass (top 11) 3
abbrev s__law_tape : Stmt := top 13
abbrev s__law_at : Stmt := top 14
abbrev s__law_letter : Stmt := top 15
abbrev s__law_told : Stmt := top 16
abbrev s_law : Stmt := top 17
theorem sc_PageError_init : FnScope ["self"] ["self"] (defScope s_PageError_init) := ⟨rfl, rfl, rfl, by decide +kernel, rfl, by decide +kernel, by decide +kernel⟩
theorem sc_is_whole : FnScope ["value"] ["value"] (defScope s_is_whole) := ⟨rfl, rfl, rfl, by decide +kernel, rfl, by decide +kernel, by decide +kernel⟩
theorem sc_is_number_below : FnScope ["value", "many"] ["value", "many"] (defScope s_is_number_below) := ⟨rfl, rfl, rfl, by decide +kernel, rfl, by decide +kernel, by decide +kernel⟩
theorem sc_is_tuple_of : FnScope ["value", "many"] ["value", "many"] (defScope s_is_tuple_of) := ⟨rfl, rfl, rfl, by decide +kernel, rfl, by decide +kernel, by decide +kernel⟩
theorem sc_is_pair : FnScope ["value", "space", "page"] ["value"] (defScope s_is_pair) := ⟨rfl, rfl, rfl, by decide +kernel, rfl, by decide +kernel, by decide +kernel⟩
theorem sc_is_letter : FnScope ["value", "ticket", "pairs", "pair"] ["value"] (defScope s_is_letter) := ⟨rfl, rfl, rfl, by decide +kernel, rfl, by decide +kernel, by decide +kernel⟩
theorem sc_Box_init : FnScope ["self"] ["self"] (defScope s_Box_init) := ⟨rfl, rfl, rfl, by decide +kernel, rfl, by decide +kernel, by decide +kernel⟩
theorem sc_Box_send : FnScope ["self", "letter"] ["self", "letter"] (defScope s_Box_send) := ⟨rfl, rfl, rfl, by decide +kernel, rfl, by decide +kernel, by decide +kernel⟩
theorem sc_Box_take : FnScope ["self"] ["self"] (defScope s_Box_take) := ⟨rfl, rfl, rfl, by decide +kernel, rfl, by decide +kernel, by decide +kernel⟩
theorem sc_Box_letters : FnScope ["self"] ["self"] (defScope s_Box_letters) := ⟨rfl, rfl, rfl, by decide +kernel, rfl, by decide +kernel, by decide +kernel⟩
theorem sc__law_tape : FnScope ["script", "tape", "k", "value", "step"] ["script"] (defScope s__law_tape) := ⟨rfl, rfl, rfl, by decide +kernel, rfl, by decide +kernel, by decide +kernel⟩
theorem sc__law_at : FnScope ["tape", "k"] ["tape", "k"] (defScope s__law_at) := ⟨rfl, rfl, rfl, by decide +kernel, rfl, by decide +kernel, by decide +kernel⟩
theorem sc__law_letter : FnScope ["number", "pick", "pairs", "ticket", "kind", "n"] ["number", "pick"] (defScope s__law_letter) := ⟨rfl, rfl, rfl, by decide +kernel, rfl, by decide +kernel, by decide +kernel⟩
theorem sc__law_told : FnScope ["box", "letter", "e"] ["box", "letter"] (defScope s__law_told) := ⟨rfl, rfl, rfl, by decide +kernel, rfl, by decide +kernel, by decide +kernel⟩
theorem sc_law : FnScope ["script", "tape", "box", "rows", "k", "number", "pick", "letter", "valid", "told"] ["script"] (defScope s_law) := ⟨rfl, rfl, rfl, by decide +kernel, rfl, by decide +kernel, by decide +kernel⟩
structure Ad where
  (C_PageError C_NotValid C_Box f_PageError_init f_is_whole f_is_number_below f_is_tuple_of f_is_pair f_is_letter f_Box_init f_Box_send f_Box_take f_Box_letters f__law_tape f__law_at f__law_letter f__law_told f_law : Addr)
  (d_PageError_init d_is_whole d_is_number_below d_is_tuple_of d_is_pair d_is_letter d_Box_init d_Box_send d_Box_take d_Box_letters d__law_tape d__law_at d__law_letter d__law_told d_law : FuncData)
structure Txt (K : PySem.W.Frag) (mg : Str → Option Value) (a : Ad) : Prop where
  m_PageError : mg "PageError" = some (.ref a.C_PageError)
  m_NotValid : mg "NotValid" = some (.ref a.C_NotValid)
  m_Box : mg "Box" = some (.ref a.C_Box)
  F_PageError_init : Fun K "__init__" "PageError.__init__" s_PageError_init a.f_PageError_init a.d_PageError_init
  B_PageError_init : Binds K a.d_PageError_init ["self"] []
  F_is_whole : Fun K "is_whole" "is_whole" s_is_whole a.f_is_whole a.d_is_whole
  B_is_whole : Binds K a.d_is_whole ["value"] []
  m_is_whole : mg "is_whole" = some (.ref a.f_is_whole)
  F_is_number_below : Fun K "is_number_below" "is_number_below" s_is_number_below a.f_is_number_below a.d_is_number_below
  B_is_number_below : Binds K a.d_is_number_below ["value", "many"] []
  m_is_number_below : mg "is_number_below" = some (.ref a.f_is_number_below)
  F_is_tuple_of : Fun K "is_tuple_of" "is_tuple_of" s_is_tuple_of a.f_is_tuple_of a.d_is_tuple_of
  B_is_tuple_of : Binds K a.d_is_tuple_of ["value", "many"] []
  m_is_tuple_of : mg "is_tuple_of" = some (.ref a.f_is_tuple_of)
  F_is_pair : Fun K "is_pair" "is_pair" s_is_pair a.f_is_pair a.d_is_pair
  B_is_pair : Binds K a.d_is_pair ["value"] []
  m_is_pair : mg "is_pair" = some (.ref a.f_is_pair)
  F_is_letter : Fun K "is_letter" "is_letter" s_is_letter a.f_is_letter a.d_is_letter
  B_is_letter : Binds K a.d_is_letter ["value"] []
  m_is_letter : mg "is_letter" = some (.ref a.f_is_letter)
  F_Box_init : Fun K "__init__" "Box.__init__" s_Box_init a.f_Box_init a.d_Box_init
  B_Box_init : Binds K a.d_Box_init ["self"] []
  F_Box_send : Fun K "send" "Box.send" s_Box_send a.f_Box_send a.d_Box_send
  B_Box_send : Binds K a.d_Box_send ["self", "letter"] []
  M_Box_send : Meth K a.C_Box "send" a.f_Box_send
  F_Box_take : Fun K "take" "Box.take" s_Box_take a.f_Box_take a.d_Box_take
  B_Box_take : Binds K a.d_Box_take ["self"] []
  M_Box_take : Meth K a.C_Box "take" a.f_Box_take
  F_Box_letters : Fun K "letters" "Box.letters" s_Box_letters a.f_Box_letters a.d_Box_letters
  B_Box_letters : Binds K a.d_Box_letters ["self"] []
  M_Box_letters : Meth K a.C_Box "letters" a.f_Box_letters
  F__law_tape : Fun K "_law_tape" "_law_tape" s__law_tape a.f__law_tape a.d__law_tape
  B__law_tape : Binds K a.d__law_tape ["script"] []
  m__law_tape : mg "_law_tape" = some (.ref a.f__law_tape)
  F__law_at : Fun K "_law_at" "_law_at" s__law_at a.f__law_at a.d__law_at
  B__law_at : Binds K a.d__law_at ["tape", "k"] []
  m__law_at : mg "_law_at" = some (.ref a.f__law_at)
  F__law_letter : Fun K "_law_letter" "_law_letter" s__law_letter a.f__law_letter a.d__law_letter
  B__law_letter : Binds K a.d__law_letter ["number", "pick"] []
  m__law_letter : mg "_law_letter" = some (.ref a.f__law_letter)
  F__law_told : Fun K "_law_told" "_law_told" s__law_told a.f__law_told a.d__law_told
  B__law_told : Binds K a.d__law_told ["box", "letter"] []
  m__law_told : mg "_law_told" = some (.ref a.f__law_told)
  F_law : Fun K "law" "law" s_law a.f_law a.d_law
  B_law : Binds K a.d_law ["script"] []
  m_law : mg "law" = some (.ref a.f_law)
  c_Box : Cls K a.C_Box
  mk_Box : Mk K a.C_Box a.f_Box_init
  n_Box__letters : NoAttr K a.C_Box "_letters"
  k_SPACES : ∃ u, mg "SPACES" = some u ∧ RelV (.int 4) u
  k_PAGES : ∃ u, mg "PAGES" = some u ∧ RelV (.int 8) u
  b_ValueError : mg "ValueError" = none
  b_isinstance : mg "isinstance" = none
  b_int : mg "int" = none
  b_bool : mg "bool" = none
  b_tuple : mg "tuple" = none
  b_list : mg "list" = none
  b_len : mg "len" = none
  b_all : mg "all" = none
  b_range : mg "range" = none
  b_abs : mg "abs" = none
  b_min : mg "min" = none
  vV : PySem.W.findCls K (.type "ValueError") (.type "type") "__init__" = some (.val (.builtin "ValueError.__init__"))
  xi_NotValid : PySem.W.findIn K (.ref a.C_NotValid) "__init__" = some (some (.ref a.f_PageError_init))
  xt_NotValid : PySem.W.typeIn K (.ref a.f_PageError_init) = some (.type "function")
  xs_NotValid : PySem.W.findIn K (.ref a.C_NotValid) "__setattr__" = some (some (.builtin "object.__setattr__"))
  xb_NotValid : PySem.W.subIn K (.ref a.C_NotValid) (.type "BaseException") = some true
  xy_NotValid : PySem.W.typeIn K (.ref a.C_NotValid) = some (.type "type")
  xk_NotValid : PySem.W.keepIn K (.ref a.C_NotValid) = true
  e1 : PySem.W.findIn K (.ref a.C_NotValid) "__getattribute__" = some (some (.builtin "BaseException.__getattribute__"))
  e2 : PySem.W.findIn K (.ref a.C_NotValid) "__getattr__" = some none
  e4 : PySem.W.hasDictIn K a.C_NotValid = true
  e5 : PySem.W.findIn K (.ref a.C_NotValid) "__class__" = some (some (.builtin "object.__class__"))
  e6 : PySem.W.specialIn K (.builtin "object.__class__") "__get__" = some (some (.builtin "getset_descriptor.__get__"))
  e7 : PySem.W.takesIn K (.builtin "object.__class__") = some true
  e8 : PySem.W.mroIn K a.C_NotValid (.type "object") = some true
  p1 : PySem.W.subIn K (.ref a.C_PageError) (.type "BaseException") = some true
  p2 : PySem.W.hasDictIn K a.C_PageError = true
  p3 : PySem.W.typeIn K (.ref a.C_PageError) = some (.type "type")
  p4 : PySem.W.subIn K (.ref a.C_NotValid) (.ref a.C_PageError) = some true
  q4 : PySem.W.kitOne K (.ref a.C_NotValid) (.ref a.C_NotValid) = some true
  x_NotValid : OexC K a.C_NotValid
  e_NotValid : ExcC K a.C_NotValid

/-! ### data -/
def wholeD : PyData → Bool
  | .int _ => true
  | _ => false
def belowD (d : PyData) (n : Int) : Bool := match d with
  | .int i => decide (0 ≤ i) && decide (i < n)
  | _ => false
def tupD (d : PyData) (n : Int) : Bool := match d with
  | .tuple ds => decide ((ds.length : Int) = n)
  | _ => false
def pairD : PyData → Bool
  | .tuple [a, b] => belowD a 4 && belowD b 8
  | _ => false
def posD : PyData → Bool
  | .int i => !decide (i < 1)
  | _ => false
def manyD : PyData → Bool
  | .tuple ps => !decide ((ps.length : Int) = 0) && ps.all pairD
  | _ => false
def letterD : PyData → Bool
  | .tuple [t, p] => posD t && manyD p
  | _ => false

theorem tup2 {d : PyData} (h : tupD d 2 = true) : ∃ x y, d = .tuple [x, y] := by
  cases d with
  | tuple ds =>
    match ds, h with
    | [x, y], _ => exact ⟨x, y, rfl⟩
    | [], h => simp [tupD] at h
    | [x], h => simp [tupD] at h
    | x :: y :: z :: r, h =>
      simp only [tupD, List.length_cons, decide_eq_true_eq] at h
      omega
  | _ => simp [tupD] at h
theorem pair_no {d : PyData} (h : tupD d 2 = false) : pairD d = false := by
  unfold pairD
  split
  · simp [tupD] at h
  · rfl
theorem letter_no {d : PyData} (h : tupD d 2 = false) : letterD d = false := by
  unfold letterD
  split
  · simp [tupD] at h
  · rfl

/-! ### promises -/
def spNop (K : PySem.W.Frag) : Sp := fun vs H Q _ => ∃ (a C : Addr), vs = [.ref a] ∧ OexC K C ∧ H a = some (exo a C none) ∧ Q .non H
def spWhole (K : PySem.W.Frag) : Sp := fun vs H Q _ => ∃ (v : V) (d : PyData), vs = [v] ∧ Dp K H v d ∧ Q (.bl (wholeD d)) H
def spBelow (K : PySem.W.Frag) : Sp := fun vs H Q _ => ∃ (v : V) (d : PyData) (n : Int), vs = [v, .int n] ∧ Dp K H v d ∧ Q (.bl (belowD d n)) H
def spTupOf (K : PySem.W.Frag) : Sp := fun vs H Q _ => ∃ (v : V) (d : PyData) (n : Int), vs = [v, .int n] ∧ Dp K H v d ∧ Q (.bl (tupD d n)) H
def spPair (K : PySem.W.Frag) : Sp := fun vs H Q _ => ∃ (v : V) (d : PyData), vs = [v] ∧ Dp K H v d ∧ Q (.bl (pairD d)) H
/-- a tuple within has no more than a thousand parts -/
def FewD (d : PyData) : Prop := ∀ t ps, d = .tuple [t, .tuple ps] → ps.length ≤ 1000
def spLetter (K : PySem.W.Frag) : Sp := fun vs H Q _ => ∃ (v : V) (d : PyData), vs = [v] ∧ Dp K H v d ∧ FewD d ∧ ∀ H', Same H H' → Q (.bl (letterD d)) H'

/-- the box at b, its list at l -/
structure BoxAt (C : Addr) (H : Hp) (b dx l : Addr) (vs : List V) : Prop where
  ins : H b = some (.ins C dx [("_letters", .ref l)])
  lst : H l = some (.lst vs)
def spBoxInit (C : Addr) : Sp := fun vs H Q _ => ∃ (x dx : Addr), vs = [.ref x] ∧ H x = some (.ins C dx []) ∧ ∀ l, H l = none → Q .non (upd (upd H l (.lst [])) x (.ins C dx [("_letters", .ref l)]))
def spTake (C : Addr) : Sp := fun vs H Q _ => ∃ (b dx l : Addr) (zs : List V), vs = [.ref b] ∧ BoxAt C H b dx l zs ∧ (zs = [] → Q .non H) ∧ ∀ z r, zs = z :: r → Q z (upd H l (.lst r))
def spLetters (C : Addr) : Sp := fun vs H Q _ => ∃ (b dx l : Addr) (zs : List V), vs = [.ref b] ∧ BoxAt C H b dx l zs ∧ ∀ p, H p = none → Q (.ref p) (upd H p (.lst zs))
def spSend (K : PySem.W.Frag) (C N : Addr) : Sp := fun vs H Q E => ∃ (b dx l : Addr) (zs : List V) (v : V) (d : PyData), vs = [.ref b, v] ∧ BoxAt C H b dx l zs ∧ zs.length ≤ 1000 ∧ Dp K H v d ∧ FewD d ∧
  (letterD d = true → ∀ H', Same H H' → Q .non (upd H' l (.lst (zs ++ [v])))) ∧ (letterD d = false → ∀ H', Same H H' → E (.ref N) none H')

section
variable {P : Program} {w : World} {K : PySem.W.Frag} {mg : Str → Option Value} {base : Heap} {a : Ad}
theorem ok_is_whole (T : Txt K mg a) : FnOk P w K mg base CX0 1 a.f_is_whole a.d_is_whole ["value"] (spWhole K) := by
  refine T.F_is_whole.ok sc_is_whole (fun vs H Q E h => ?_) (fun cdv A outer s H vs Q E hr h => ?_)
  · obtain ⟨v, d, rfl, _⟩ := h
    rfl
  · obtain ⟨v, d, rfl, hd, q⟩ := h
    refine ⟨_, (pss_one (ps_ret (pe_and (pe_callB call_isi (by rfl) T.b_isinstance (by decide +kernel) (pa_cons (pv 0) (pa_cons (pe_bltn (v := .ty "int") rfl T.b_int (by decide +kernel) rfl) pa_nil))) (pe_one (pe_not (pe_callB call_isi (by rfl) T.b_isinstance (by decide +kernel) (pa_cons (pv 0) (pa_cons (pe_bltn (v := .ty "bool") rfl T.b_bool (by decide +kernel) rfl) pa_nil)))))))), ?_⟩
    have ty := tyx hd
    refine ⟨_, rfl, _, _, _, _, _, rfl, .ty _, ty, kit_int d, _, rfl, ?_⟩
    cases d with
    | int i => exact iteT ⟨_, rfl, _, _, _, _, _, rfl, .ty _, ty, kit_bool _, _, rfl, q⟩
    | bool b => exact iteT ⟨_, rfl, _, _, _, _, _, rfl, .ty _, ty, kit_bool _, _, rfl, q⟩
    | none => exact iteF q
    | str x => exact iteF q
    | list xs => exact iteF q
    | tuple xs => exact iteF q
    | dict xs => exact iteF q
theorem ok_is_number_below (T : Txt K mg a) : FnOk P w K mg base CX0 2 a.f_is_number_below a.d_is_number_below ["value", "many"] (spBelow K) := by
  refine T.F_is_number_below.ok sc_is_number_below (fun vs H Q E h => ?_) (fun cdv A outer s H vs Q E hr h => ?_)
  · obtain ⟨v, d, n, rfl, _⟩ := h
    rfl
  · obtain ⟨v, d, n, rfl, hd, q⟩ := h
    refine ⟨_, (pss_one (ps_ret (pe_and (pe_call (ok_is_whole T) (hr.mono (by decide)) rfl T.m_is_whole T.F_is_whole.kp T.B_is_whole .nil pass0 (pa_cons (pv 0) pa_nil)) (pe_one (pe_chain (op_le) (op_lt) pe_int (pv 0) (pv 1)))))), ?_⟩
    refine ⟨_, rfl, _, d, rfl, hd, _, rfl, ?_⟩
    cases d with
    | int i =>
      cases hd
      refine iteT ⟨_, rfl, _, _, rfl, rfl, _, rfl, ?_⟩
      refine ite2 (fun c => ?_) (fun c => ?_)
      · refine ⟨_, rfl, _, _, rfl, rfl, ?_⟩
        have e : belowD (.int i) n = decide (i < n) := by simp only [belowD, c, Bool.true_and]
        rw [e] at q
        exact q
      · have e : belowD (.int i) n = false := by simp only [belowD, Bool.eq_false_iff.mpr c, Bool.false_and]
        rw [e] at q
        exact q
    | bool b => exact iteF q
    | none => exact iteF q
    | str x => exact iteF q
    | list xs => exact iteF q
    | tuple xs => exact iteF q
    | dict xs => exact iteF q
theorem ok_is_tuple_of (T : Txt K mg a) : FnOk P w K mg base CX0 1 a.f_is_tuple_of a.d_is_tuple_of ["value", "many"] (spTupOf K) := by
  refine T.F_is_tuple_of.ok sc_is_tuple_of (fun vs H Q E h => ?_) (fun cdv A outer s H vs Q E hr h => ?_)
  · obtain ⟨v, d, n, rfl, _⟩ := h
    rfl
  · obtain ⟨v, d, n, rfl, hd, q⟩ := h
    refine ⟨_, (pss_one (ps_ret (pe_and (pe_callB call_isi (by rfl) T.b_isinstance (by decide +kernel) (pa_cons (pv 0) (pa_cons (pe_bltn (v := .ty "tuple") rfl T.b_tuple (by decide +kernel) rfl) pa_nil))) (pe_one (pe_cmpR (op_eq) (pe_callB call_len_seq (by rfl) T.b_len (by decide +kernel) (pa_cons (pv 0) pa_nil)) (pv 1) (nomark _)))))), ?_⟩
    have ty := tyx hd
    refine ⟨_, rfl, _, _, _, _, _, rfl, .ty _, ty, kit_tup d, _, rfl, ?_⟩
    cases d with
    | tuple ds =>
      cases hd with
      | @tup p xs _ s1 q1 =>
        refine iteT ⟨_, rfl, _, _, rfl, .inr s1, _, rfl, rfl, ?_⟩
        have e : decide (V.int (xs.length : Int) = V.int n) = tupD (.tuple ds) n := by
          simp only [tupD, dpAll_len q1, V.int.injEq]
        rw [e]
        exact q
    | int b => exact iteF q
    | bool b => exact iteF q
    | none => exact iteF q
    | str x => exact iteF q
    | list xs => exact iteF q
    | dict xs => exact iteF q
theorem ok_is_pair (T : Txt K mg a) : FnOk P w K mg base CX0 3 a.f_is_pair a.d_is_pair ["value"] (spPair K) := by
  refine T.F_is_pair.ok sc_is_pair (fun vs H Q E h => ?_) (fun cdv A outer s H vs Q E hr h => ?_)
  · obtain ⟨v, d, rfl, _⟩ := h
    rfl
  · obtain ⟨v, d, rfl, hd, q⟩ := h
    refine ⟨_, (pss_cons (ps_if (pt_not (pt_val (pe_call (ok_is_tuple_of T) (hr.mono (by decide)) rfl T.m_is_tuple_of T.F_is_tuple_of.kp T.B_is_tuple_of .nil pass0 (pa_cons (pv 0) (pa_cons pe_int pa_nil))))) (pss_one (ps_ret pe_bl)) pss_nil)
    (pss_cons (ps_asg (pv 0) (pg_tup rfl (pgs_cons (pg_name (i := 1) sc_is_pair.nd rfl (Or.inl rfl)) (pgs_cons (pg_name (i := 2) sc_is_pair.nd rfl (Or.inl rfl)) pgs_nil))))
    (pss_one (ps_ret (pe_and (pe_call (ok_is_number_below T) (hr.mono (by decide)) rfl T.m_is_number_below T.F_is_number_below.kp T.B_is_number_below .nil pass0 (pa_cons (pv 1) (pa_cons (pe_con rfl T.k_SPACES) pa_nil))) (pe_one (pe_call (ok_is_number_below T) (hr.mono (by decide)) rfl T.m_is_number_below T.F_is_number_below.kp T.B_is_number_below .nil pass0 (pa_cons (pv 2) (pa_cons (pe_con rfl T.k_PAGES) pa_nil))))))))), ?_⟩
    refine ⟨_, rfl, v, d, 2, rfl, hd, _, rfl, ?_⟩
    cases e : tupD d 2 with
    | false =>
      rw [pair_no e] at q
      exact iteT q
    | true =>
      obtain ⟨x, y, rfl⟩ := tup2 e
      refine iteF ?_
      cases hd with
      | @tup p xs _ s1 q1 =>
        cases q1 with
        | @cons vx r _ _ dx q2 =>
          cases q2 with
          | @cons vy r _ _ dy q3 =>
            cases q3
            refine ⟨_, rfl, p, _, rfl, s1, rfl, _, _, rfl, _, _, rfl, rfl, ?_⟩
            refine ⟨_, rfl, _, x, 4, rfl, dx, _, rfl, ?_⟩
            have e2 : pairD (.tuple [x, y]) = (belowD x 4 && belowD y 8) := rfl
            rw [e2] at q
            cases e3 : belowD x 4 with
            | false =>
              rw [e3] at q
              exact iteF q
            | true =>
              rw [e3, Bool.true_and] at q
              exact iteT ⟨_, rfl, _, y, 8, rfl, dy, q⟩
theorem ok_is_letter (T : Txt K mg a) : FnOk P w K mg base CX0 4 a.f_is_letter a.d_is_letter ["value"] (spLetter K) := by
  refine T.F_is_letter.ok sc_is_letter (fun vs H Q E h => ?_) (fun cdv A outer s H vs Q E hr h => ?_)
  · obtain ⟨v, d, rfl, _⟩ := h
    rfl
  · obtain ⟨v, d, rfl, hd, few, q⟩ := h
    refine ⟨_, (pss_cons (ps_if (pt_not (pt_val (pe_call (ok_is_tuple_of T) (hr.mono (by decide)) rfl T.m_is_tuple_of T.F_is_tuple_of.kp T.B_is_tuple_of .nil pass0 (pa_cons (pv 0) (pa_cons pe_int pa_nil))))) (pss_one (ps_ret pe_bl)) pss_nil)
    (pss_cons (ps_asg (pv 0) (pg_tup rfl (pgs_cons (pg_name (i := 1) sc_is_letter.nd rfl (Or.inl rfl)) (pgs_cons (pg_name (i := 2) sc_is_letter.nd rfl (Or.inl rfl)) pgs_nil))))
    (pss_cons (ps_if (PW.pt (pw_or (pt_not (pt_val (pe_call (ok_is_whole T) (hr.mono (by decide)) rfl T.m_is_whole T.F_is_whole.kp T.B_is_whole .nil pass0 (pa_cons (pv 1) pa_nil)))) (pw_or1 (pt_cmpR (op_lt) (pv 1) pe_int (nomark _))))) (pss_one (ps_ret pe_bl)) pss_nil)
    (pss_cons (ps_if (PW.pt (pw_or (pt_not (pt_val (pe_callB call_isi (by rfl) T.b_isinstance (by decide +kernel) (pa_cons (pv 2) (pa_cons (pe_bltn (v := .ty "tuple") rfl T.b_tuple (by decide +kernel) rfl) pa_nil))))) (pw_or1 (pt_cmpR (op_eq) (pe_callB call_len_seq (by rfl) T.b_len (by decide +kernel) (pa_cons (pv 2) pa_nil)) pe_int (nomark _))))) (pss_one (ps_ret pe_bl)) pss_nil)
    (pss_one (ps_ret (pe_callB (cr_all rfl) (by rfl) T.b_all (by decide +kernel) (pa_cons (pe_lc (own := [("pair", 3)]) (g := gName 3) (tt := tYes) rfl sc_is_letter.nd (pi_tup (pv 2)) (blkOk_by (own := [("pair", 3)]) (N := ["value", "ticket", "pairs", "pair"]) (sc := defScope s_is_letter) (by decide +kernel)) (fun _ _ _ _ _ => (pg_name (i := 3) sc_is_letter.nd rfl (Or.inl rfl))) (fun _ _ _ _ _ => pts_nil) (fun _ _ _ _ _ => (pe_call (ok_is_pair T) (hr.mono (by decide)) rfl T.m_is_pair T.F_is_pair.kp T.B_is_pair .nil pass0 (pa_cons (pv 3) pa_nil)))) pa_nil)))))))), ?_⟩
    refine ⟨_, rfl, v, d, 2, rfl, hd, _, rfl, ?_⟩
    cases e : tupD d 2 with
    | false =>
      rw [letter_no e] at q
      exact iteT (q H (Same.refl H))
    | true =>
      obtain ⟨x, y, rfl⟩ := tup2 e
      refine iteF ?_
      cases hd with
      | @tup p xs _ s1 q1 =>
        cases q1 with
        | @cons vx r _ _ dx q2 =>
          cases q2 with
          | @cons vy r _ _ dy q3 =>
            cases q3
            refine ⟨_, rfl, p, _, rfl, s1, rfl, _, _, rfl, _, _, rfl, rfl, ?_⟩
            have e2 : letterD (.tuple [x, y]) = (posD x && manyD y) := rfl
            rw [e2] at q
            refine ⟨_, rfl, _, x, rfl, dx, _, rfl, ?_⟩
            have noInt : wholeD x = false → posD x = false := by cases x <;> simp [wholeD, posD]
            cases e3 : wholeD x with
            | false =>
              rw [noInt e3] at q
              exact iteT (iteT (q H (Same.refl H)))
            | true =>
              cases x with
              | int i =>
                cases dx
                refine iteF ⟨_, rfl, _, _, rfl, rfl, _, rfl, ?_⟩
                refine ite2 (fun c => ?_) (fun c => ?_)
                · have e4 : posD (.int i) = false := by simp only [posD, c, Bool.not_true]
                  rw [e4] at q
                  exact q H (Same.refl H)
                · have e4 : posD (.int i) = true := by simp only [posD, Bool.eq_false_iff.mpr c, Bool.not_false]
                  rw [e4, Bool.true_and] at q
                  have ty := tyx dy
                  refine ⟨_, rfl, _, _, _, _, _, rfl, .ty _, ty, kit_tup y, _, rfl, ?_⟩
                  cases e5 : isTup y with
                  | false =>
                    have e6 : manyD y = false := by cases y <;> simp_all [isTup, manyD]
                    rw [e6] at q
                    exact iteT (iteT (q H (Same.refl H)))
                  | true =>
                    cases y with
                    | tuple ps =>
                      cases dy with
                      | @tup p2 xs2 _ s2 qs =>
                        refine iteF ⟨_, rfl, _, _, rfl, .inr s2, rfl, _, rfl, ?_⟩
                        have len := dpAll_len qs
                        have e6 : manyD (.tuple ps) = (!decide ((ps.length : Int) = 0) && ps.all pairD) := rfl
                        rw [e6] at q
                        refine ite2 (fun c2 => ?_) (fun c2 => ?_)
                        · have z : (ps.length : Int) = 0 := by
                            rw [← len]
                            simpa using c2
                          rw [decide_eq_true z] at q
                          exact q H (Same.refl H)
                        · have z : ¬ (ps.length : Int) = 0 := by
                            rw [← len]
                            simpa using c2
                          rw [decide_eq_false z, Bool.not_false, Bool.true_and] at q
                          have lim := few _ _ rfl
                          refine ⟨_, rfl, p2, rfl, ⟨_, s2⟩, fun D hD => lc_tup (K := K) (a := p2) (xs := xs2) (fun j H' => Same H H' ∧ H' D = some (.lst ((ps.take j).map fun d => V.bl (pairD d))))
                            ⟨Same.new hD, upd_same⟩ (fun j H' _ ⟨eS, _⟩ => Same.tupS eS s2) ?_ ?_⟩
                          · rintro j y H' hy ⟨eS, eD⟩
                            obtain ⟨dy, h1, h2⟩ := dpAll_get qs hy
                            refine ⟨rfl, _, rfl, _, dy, rfl, dp_mono eS h2, _, eD, ?_, Same.put eS hD, ?_⟩
                            · rw [List.length_map]
                              exact Nat.lt_of_le_of_lt (Nat.le_trans (by rw [List.length_take]; exact Nat.min_le_right _ _) lim) (by decide : 1000 < sizeLine)
                            · rw [upd_same, take_snoc h1, List.map_append]
                              rfl
                          · rintro H' ⟨eS, eD⟩
                            refine ⟨D, ps.map pairD, rfl, SqL.of ?_, ?_⟩
                            · rw [eD, len, List.take_length, List.map_map]
                              rfl
                            · have e7 : (ps.map pairD).all id = ps.all pairD := by
                                rw [List.all_map]
                                rfl
                              rw [e7]
                              exact q H' eS
                    | _ => simp [isTup] at e5
              | _ => simp [wholeD] at e3
theorem ok_PageError_init (T : Txt K mg a) : FnOk P w K mg base CX0 1 a.f_PageError_init a.d_PageError_init ["self"] (spNop K) := by
  refine T.F_PageError_init.ok sc_PageError_init (fun vs H Q E h => ?_) (fun cdv A outer s H vs Q E hr h => ?_)
  · obtain ⟨x, C, rfl, _⟩ := h
    rfl
  · obtain ⟨x, C, rfl, hC, hx, q⟩ := h
    refine ⟨_, (pss_one (ps_expr (pe_veinit rfl T.b_ValueError T.vV (pa_cons (pv 0) pa_nil)))), ?_⟩
    exact ⟨_, rfl, x, C, [], rfl, Nat.zero_le _, hC, hx, q⟩
theorem ok_Box_init (T : Txt K mg a) : FnOk P w K mg base CX0 1 a.f_Box_init a.d_Box_init ["self"] (spBoxInit a.C_Box) := by
  refine T.F_Box_init.ok sc_Box_init (fun vs H Q E h => ?_) (fun cdv A outer s H vs Q E hr h => ?_)
  · obtain ⟨x, dx, rfl, _⟩ := h
    rfl
  · obtain ⟨x, dx, rfl, hx, q⟩ := h
    refine ⟨_, (pss_one (ps_fld (pv 0) (pe_lst pa_nil) rfl)), ?_⟩
    refine ⟨Nat.zero_le _, fun l hl => ⟨_, rfl, x, a.C_Box, dx, [], rfl, (upd_ne (ne_of_none hx hl)).trans hx, T.c_Box, T.n_Box__letters, (by show 0 < 1000; decide), ?_⟩⟩
    exact q l hl
theorem ok_Box_take (T : Txt K mg a) : FnOk P w K mg base CX0 1 a.f_Box_take a.d_Box_take ["self"] (spTake a.C_Box) := by
  refine T.F_Box_take.ok sc_Box_take (fun vs H Q E h => ?_) (fun cdv A outer s H vs Q E hr h => ?_)
  · obtain ⟨b, dx, l, zs, rfl, _⟩ := h
    rfl
  · obtain ⟨b, dx, l, zs, rfl, hB, q0, q1⟩ := h
    refine ⟨_, (pss_cons (ps_if (pt_cmpR (op_eq) (pe_callB call_len_seq (by rfl) T.b_len (by decide +kernel) (pa_cons (pe_fld (pv 0) rfl) pa_nil)) pe_int (nomark _)) (pss_one (ps_ret pe_non)) pss_nil)
    (pss_one (ps_ret (pe_bm PySem.F.plainAttrs_list PySem.F.slot_list_pop PySem.F.type_list_pop mt_popAt (pe_fld (pv 0) rfl) (pa_cons pe_int pa_nil))))), ?_⟩
    refine ⟨_, rfl, b, a.C_Box, dx, _, _, rfl, hB.ins, T.c_Box, T.n_Box__letters, rfl, l, zs, rfl, .inl (SqL.of hB.lst), rfl, _, rfl, ?_⟩
    cases zs with
    | nil => exact iteT (q0 rfl)
    | cons z r =>
      refine ite2 (fun c => ?_) (fun c => ?_)
      · simp at c
        omega
      · refine ⟨_, rfl, b, a.C_Box, dx, _, _, rfl, hB.ins, T.c_Box, T.n_Box__letters, rfl, .inl ⟨rfl, _, SqL.of hB.lst⟩, l, _, 0, 0, z, rfl, rfl, hB.lst, (by decide), (by decide), ?_, rfl, ?_⟩
        · simp [seqIndex?]
        · exact q1 z r rfl
theorem ok_Box_letters (T : Txt K mg a) : FnOk P w K mg base CX0 1 a.f_Box_letters a.d_Box_letters ["self"] (spLetters a.C_Box) := by
  refine T.F_Box_letters.ok sc_Box_letters (fun vs H Q E h => ?_) (fun cdv A outer s H vs Q E hr h => ?_)
  · obtain ⟨b, dx, l, zs, rfl, _⟩ := h
    rfl
  · obtain ⟨b, dx, l, zs, rfl, hB, q⟩ := h
    refine ⟨_, (pss_one (ps_ret (pe_callTy call_list_of (by rfl) T.b_list (by decide +kernel) (pa_cons (pe_fld (pv 0) rfl) pa_nil)))), ?_⟩
    exact ⟨_, rfl, b, a.C_Box, dx, _, _, rfl, hB.ins, T.c_Box, T.n_Box__letters, rfl, l, zs, rfl, .inl (SqL.of hB.lst), q⟩
theorem ok_Box_send (T : Txt K mg a) : FnOk P w K mg base (L2.CX P w) 6 a.f_Box_send a.d_Box_send ["self", "letter"] (spSend K a.C_Box a.C_NotValid) := by
  refine T.F_Box_send.okX sc_Box_send (fun vs H Q E h => ?_) (fun cdv A outer s H vs Q E hr h => ?_)
  · obtain ⟨b, dx, l, zs, v, d, rfl, _⟩ := h
    rfl
  · obtain ⟨b, dx, l, zs, v, d, rfl, hB, hz, hd, few, yes, no⟩ := h
    refine ⟨_, (pss_cons (ps_if (pt_not (pt_val (pe_call (ok_is_letter T) (hr.mono (by decide)) rfl T.m_is_letter T.F_is_letter.kp T.B_is_letter .nil pass0 (pa_cons (pv 1) pa_nil)))) (pss_one (ps_raise rfl (takes_of rfl rfl rfl rfl) (mk_exc0 T.x_NotValid T.xi_NotValid T.xt_NotValid (ok_PageError_init T) (hr.mono (by decide)) T.B_PageError_init pass0 rfl T.m_NotValid))) pss_nil)
    (pss_one (ps_expr (pe_bm PySem.F.plainAttrs_list PySem.F.slot_list_append PySem.F.type_list_append mt_append (pe_fld (pv 0) rfl) (pa_cons (pv 1) pa_nil))))), ?_⟩
    refine ⟨_, rfl, v, d, rfl, hd, few, fun H1 e1 => ⟨_, rfl, ?_⟩⟩
    cases e : letterD d with
    | false =>
      refine iteT fun x hx => ⟨x, a.C_NotValid, rfl, T.x_NotValid, upd_same, rfl, upd_same, ?_⟩
      refine no e _ fun b2 o h2 => ?_
      have ne := ne_of_none (e1 _ _ h2) hx
      rw [del_ne ne, upd_ne ne]
      exact e1 _ _ h2
    | true =>
      refine iteF ⟨_, rfl, b, a.C_Box, dx, _, _, rfl, e1 _ _ hB.ins, T.c_Box, T.n_Box__letters, rfl, .inl ⟨rfl, _, SqL.of (e1 _ _ hB.lst)⟩, _, rfl, l, zs, v, rfl, rfl, e1 _ _ hB.lst, Nat.lt_of_le_of_lt hz (by decide), ?_⟩
      exact yes e H1 e1
end
/-! ### the tape: what it holds does not matter, only that it holds few numbers from 0 to 999 -/
def Dig (ts : List Int) : Prop := ∀ t ∈ ts, 0 ≤ t ∧ t < 1000
theorem Dig.nil : Dig [] := fun _ h => absurd h List.not_mem_nil
theorem Dig.snoc {ts : List Int} {x : Int} (h : Dig ts) (h0 : 0 ≤ x) (h1 : x < 1000) : Dig (ts ++ [x]) := fun t ht => by
  rcases List.mem_append.mp ht with ht | ht
  · exact h t ht
  · rw [List.mem_singleton.mp ht]
    exact ⟨h0, h1⟩
def spTape (K : PySem.W.Frag) : Sp := fun vs H Q _ => ∃ (p : Addr) (ns : List Int), vs = [.ref p] ∧ SqL K H p (ns.map V.int) ∧ ns.length ≤ 63 ∧
  ∀ (H' : Hp) (t : Addr) (ts : List Int), Same H H' → H t = none → H' t = some (.lst (ts.map V.int)) → Dig ts → ts.length ≤ 3780 → Q (.ref t) H'
def spAt (K : PySem.W.Frag) : Sp := fun vs H Q _ => ∃ (t : Addr) (ts : List Int) (k : Int), vs = [.ref t, .int k] ∧ SqL K H t (ts.map V.int) ∧ 0 ≤ k ∧ Dig ts ∧ ∀ x : Int, 0 ≤ x → x < 1000 → Q (.int x) H
section
variable {P : Program} {w : World} {K : PySem.W.Frag} {mg : Str → Option Value} {base : Heap} {a : Ad}
theorem mod1000 (v : Int) : 0 ≤ v % 1000 ∧ v % 1000 < 1000 := ⟨Int.emod_nonneg _ (by decide), Int.emod_lt_of_pos _ (by decide)⟩
theorem snoc_int (ts : List Int) (x : Int) : ts.map V.int ++ [V.int x] = (ts ++ [x]).map V.int := by rw [List.map_append]; rfl
theorem ok__law_tape (T : Txt K mg a) : FnOk P w K mg base CX0 1 a.f__law_tape a.d__law_tape ["script"] (spTape K) := by
  refine T.F__law_tape.ok sc__law_tape (fun vs H Q E h => ?_) (fun cdv A outer s H vs Q E hr h => ?_)
  · obtain ⟨p, ns, rfl, _⟩ := h
    rfl
  · obtain ⟨sp, ns, rfl, hS, hlen, q⟩ := h
    refine ⟨_, (pss_cons (ps_set (i := 1) sc__law_tape.nd rfl (Or.inl rfl) (pe_lst pa_nil))
    (pss_cons (ps_for PassesOwn.never rfl (pi_range1 rfl T.b_range (pa_cons (pe_callB call_len_seq (by rfl) T.b_len (by decide +kernel) (pa_cons (pv 0) pa_nil)) pa_nil)) (pg_name (i := 2) sc__law_tape.nd rfl (Or.inl rfl))
    (pss_cons (ps_set (i := 3) sc__law_tape.nd rfl (Or.inl rfl) (pe_callB call_abs (by rfl) T.b_abs (by decide +kernel) (pa_cons (pe_callTy call_int1 (by rfl) T.b_int (by decide +kernel) (pa_cons (pe_ix ix_list (pv 0) (pv 2) (fun _ _ => rfl)) pa_nil)) pa_nil)))
    (pss_one (ps_if (pt_cmpR (op_ge) (pv 3) (pe_op op_pow pe_int pe_int) (nomark _)) (pss_one (ps_for PassesOwn.never rfl (pi_range1 rfl T.b_range (pa_cons pe_int pa_nil)) (pg_name (i := 4) sc__law_tape.nd rfl (Or.inl rfl))
    (pss_one (ps_if (pt_cmpR (op_gt) (pv 3) pe_int (nomark _)) (pss_cons (ps_expr (pe_bm PySem.F.plainAttrs_list PySem.F.slot_list_append PySem.F.type_list_append mt_append (pv 1) (pa_cons (pe_op op_mod (pv 3) pe_int) pa_nil)))
    (pss_one (ps_set (i := 3) sc__law_tape.nd rfl (Or.inl rfl) (pe_op op_fdiv (pv 3) pe_int)))) pss_nil)))) (pss_one (ps_for PassesOwn.never rfl (pi_range1 rfl T.b_range (pa_cons pe_int pa_nil)) (pg_name (i := 4) sc__law_tape.nd rfl (Or.inl rfl))
    (pss_cons (ps_set (i := 3) sc__law_tape.nd rfl (Or.inl rfl) (pe_op op_mod (pe_op op_add (pe_op op_add (pe_op op_mul (pv 3) pe_int) (pe_op op_mul pe_int (pe_op op_add (pv 2) pe_int))) (pe_op op_mul pe_int (pv 4))) pe_int))
    (pss_cons (ps_set (i := 3) sc__law_tape.nd rfl (Or.inl rfl) (pe_op op_mod (pe_op op_mul (pv 3) pe_int) pe_int))
    (pss_one (ps_expr (pe_bm PySem.F.plainAttrs_list PySem.F.slot_list_append PySem.F.type_list_append mt_append (pv 1) (pa_cons (pe_op op_mod (pe_op op_fdiv (pv 3) pe_int) pe_int) pa_nil))))))))))))
    (pss_one (ps_ret (pv 1))))), ?_⟩
    have len0 : ((List.length (ns.map V.int) : Nat) : Int) ≤ 63 := by rw [List.length_map]; omega
    refine ⟨Nat.zero_le _, fun p hp => ?_⟩
    refine ⟨_, rfl, sp, _, rfl, .inl ((Same.new hp).seq hS), _, rfl, by omega, by omega,
      for_range (lo := 0) (n := ((List.length (ns.map V.int) : Nat) : Int).toNat)
        (fun i σ H' => ∃ (x2 x3 x4 : Option V) (ts : List Int), σ = [some (.ref sp), some (.ref p), x2, x3, x4] ∧ Same H H' ∧ H' p = some (.lst (ts.map V.int)) ∧ Dig ts ∧ ts.length ≤ 60 * i)
        ⟨none, none, none, [], rfl, Same.new hp, upd_same, Dig.nil, Nat.le_refl _⟩ ?_ ?_⟩
    · rintro i σ H' hi ⟨x2, x3, x4, ts, rfl, eS, hL, dg, hl⟩
      rw [List.length_map] at hi
      have hi2 : i < ns.length := by omega
      refine ⟨_, rfl, _, rfl, _, _, _, .int ns[i], rfl, rfl, eS.seq hS, at_of (j := i) (by omega) (by rw [List.getElem?_map, List.getElem?_eq_getElem hi2]; rfl), ?_⟩
      refine .inl ⟨_, rfl, _, rfl, ?_⟩
      refine ⟨_, rfl, _, _, rfl, rfl, ⟨by decide, by decide, by decide⟩, _, _, rfl, rfl, _, rfl, ?_⟩
      refine ite2 (fun c => ?_) (fun c => ?_)
      · refine ⟨60, rfl, by decide, by decide, for_range (lo := 0) (n := (60 : Int).toNat)
          (fun j σ H' => ∃ (v : Int) (x4 : Option V) (ts : List Int), σ = [some (.ref sp), some (.ref p), some (.int (0 + (i : Int))), some (.int v), x4] ∧ Same H H' ∧ H' p = some (.lst (ts.map V.int)) ∧ Dig ts ∧ ts.length ≤ 60 * i + j)
          ⟨_, _, ts, rfl, eS, hL, dg, hl⟩ ?_ ?_⟩
        · rintro j σ H2 hj ⟨v, x4, ts, rfl, eS, hL, dg, hl⟩
          refine ⟨_, rfl, _, _, rfl, rfl, _, rfl, ?_⟩
          have hj2 : j < 60 := hj
          refine ite2 (fun c2 => ?_) (fun c2 => ?_)
          · obtain ⟨m0, m1⟩ := mod1000 v
            refine ⟨_, rfl, .inl ⟨rfl, _, SqL.of hL⟩, _, rfl, _, _, rfl, rfl, (by show (0 : Int) < 1000; decide), p, _, _, rfl, rfl, hL, ?_, ?_⟩
            · rw [List.length_map]
              exact Nat.lt_of_le_of_lt (by omega : ts.length ≤ 4000) (by decide)
            · refine ⟨_, rfl, _, _, rfl, rfl, ⟨by decide, by decide⟩, ?_⟩
              refine ⟨_, _, ts ++ [v % 1000], rfl, Same.put eS hp, ?_, dg.snoc m0 m1, ?_⟩
              · rw [upd_same, snoc_int]
              · rw [List.length_append, List.length_singleton]
                omega
          · exact ⟨v, _, ts, rfl, eS, hL, dg, by omega⟩
        · rintro σ H2 ⟨v, x4, ts, rfl, eS, hL, dg, hl⟩
          exact ⟨_, _, _, ts, rfl, eS, hL, dg, by simp at hl; omega⟩
      · refine ⟨4, rfl, by decide, by decide, for_range (lo := 0) (n := (4 : Int).toNat)
          (fun j σ H' => ∃ (v : Int) (x4 : Option V) (ts : List Int), σ = [some (.ref sp), some (.ref p), some (.int (0 + (i : Int))), some (.int v), x4] ∧ Same H H' ∧ H' p = some (.lst (ts.map V.int)) ∧ Dig ts ∧ ts.length ≤ 60 * i + j)
          ⟨_, _, ts, rfl, eS, hL, dg, hl⟩ ?_ ?_⟩
        · rintro j σ H2 hj ⟨v, x4, ts, rfl, eS, hL, dg, hl⟩
          have hj2 : j < 4 := hj
          refine ⟨_, rfl, _, _, rfl, rfl, .inr ⟨by decide, by decide⟩, _, rfl, _, _, rfl, rfl, _, _, rfl, rfl, .inl ⟨by decide, by decide⟩, _, _, rfl, rfl, _, rfl, _, _, rfl, rfl, .inl ⟨by decide, by decide⟩,
            _, _, rfl, rfl, _, _, rfl, rfl, (by show (0 : Int) < 2147483647; decide), ?_⟩
          refine ⟨_, rfl, _, _, rfl, rfl, .inr ⟨by decide, by decide⟩, _, _, rfl, rfl, (by show (0 : Int) < 2147483647; decide), ?_⟩
          refine ⟨_, rfl, .inl ⟨rfl, _, SqL.of hL⟩, _, rfl, _, _, rfl, rfl, ⟨by decide, by decide⟩, _, _, rfl, rfl, (by show (0 : Int) < 1000; decide), p, _, _, rfl, rfl, hL, ?_, ?_⟩
          · rw [List.length_map]
            exact Nat.lt_of_le_of_lt (by omega : ts.length ≤ 4000) (by decide)
          · refine ⟨_, _, ts ++ [((v * 48271 + 69621 * (0 + (i : Int) + 1) + 7 * (0 + (j : Int))) % 2147483647 * 16807 % 2147483647 / 1000) % 1000], rfl, Same.put eS hp, ?_, dg.snoc (mod1000 _).1 (mod1000 _).2, ?_⟩
            · rw [upd_same, snoc_int]
            · rw [List.length_append, List.length_singleton]
              omega
        · rintro σ H2 ⟨v, x4, ts, rfl, eS, hL, dg, hl⟩
          exact ⟨_, _, _, ts, rfl, eS, hL, dg, by simp at hl; omega⟩
    · rintro σ H' ⟨x2, x3, x4, ts, rfl, eS, hL, dg, hl⟩
      refine ⟨_, rfl, q H' p ts eS hp hL dg ?_⟩
      omega
theorem ok__law_at (T : Txt K mg a) : FnOk P w K mg base CX0 1 a.f__law_at a.d__law_at ["tape", "k"] (spAt K) := by
  refine T.F__law_at.ok sc__law_at (fun vs H Q E h => ?_) (fun cdv A outer s H vs Q E hr h => ?_)
  · obtain ⟨t, ts, k, rfl, _⟩ := h
    rfl
  · obtain ⟨t, ts, k, rfl, hS, hk, dg, q⟩ := h
    refine ⟨_, (pss_cons (ps_if (pt_cmpR (op_lt) (pv 1) (pe_callB call_len_seq (by rfl) T.b_len (by decide +kernel) (pa_cons (pv 0) pa_nil)) (nomark _)) (pss_one (ps_ret (pe_ix ix_list (pv 0) (pv 1) (fun _ _ => rfl)))) pss_nil)
    (pss_one (ps_ret pe_int))), ?_⟩
    refine ⟨_, rfl, _, rfl, t, _, rfl, .inl hS, _, _, rfl, rfl, _, rfl, ?_⟩
    refine ite2 (fun c => ?_) (fun c => ?_)
    · have hk2 : k.toNat < ts.length := by
        rw [List.length_map] at c
        have c2 := of_decide_eq_true c
        omega
      obtain ⟨h0, h1⟩ := dg ts[k.toNat] (List.getElem_mem _)
      refine ⟨_, rfl, _, rfl, t, _, _, .int ts[k.toNat], rfl, rfl, hS, at_of (j := k.toNat) (by omega) (by rw [List.getElem?_map, List.getElem?_eq_getElem hk2]; rfl), q _ h0 h1⟩
    · exact q 0 (by decide) (by decide)
end

/-! ### the law's own letters -/
/-- pairs of numbers that exist -/
def Prs (ps : List PyData) : Prop := ps.length ≤ 4 ∧ ps ≠ [] ∧ ∀ d ∈ ps, pairD d = true ∧ Sh 1 d
def spMake (K : PySem.W.Frag) : Sp := fun vs H Q _ => ∃ (n p : Int), vs = [.int n, .int p] ∧ 0 ≤ n ∧ 0 ≤ p ∧
  ∀ (v : V) (d : PyData) (H' : Hp), Same H H' → Dp K H' v d → FewD d → Sh 3 d → letterD d = decide (7 < n / 8 % 16) → Q v H'
theorem Prs.all {ps : List PyData} (h : Prs ps) : ps.all pairD = true := List.all_eq_true.mpr fun d hd => (h.2.2 d hd).1
theorem Prs.many {ps : List PyData} (h : Prs ps) : manyD (.tuple ps) = true := by
  have e : manyD (.tuple ps) = (!decide ((ps.length : Int) = 0) && ps.all pairD) := rfl
  have z : ¬ (ps.length : Int) = 0 := fun z => h.2.1 (List.eq_nil_of_length_eq_zero (by omega))
  rw [e, h.all, decide_eq_false z]
  rfl
theorem many_bad {ps : List PyData} {d : PyData} (h : d ∈ ps) (e : pairD d = false) : manyD (.tuple ps) = false := by
  have e1 : manyD (.tuple ps) = (!decide ((ps.length : Int) = 0) && ps.all pairD) := rfl
  have e2 : ps.all pairD = false := List.all_eq_false.mpr ⟨d, h, by rw [e]; decide⟩
  rw [e1, e2, Bool.and_false]
theorem letter_tp {t p : PyData} : letterD (.tuple [t, p]) = (posD t && manyD p) := rfl
theorem sh2 {n : Nat} {x y : PyData} (hx : Sh n x) (hy : Sh n y) : Sh (n + 1) (.tuple [x, y]) := sh_tup fun d hd => by
  rcases List.mem_cons.mp hd with rfl | hd
  · exact hx
  · rw [List.mem_singleton.mp hd]
    exact hy
theorem few_tp {t : PyData} {ps : List PyData} (h : ps.length ≤ 1000) : FewD (.tuple [t, .tuple ps]) := fun t2 ps2 e => by
  injection e with e1
  injection e1 with e2 e3
  injection e3 with e4 _
  injection e4 with e5
  rw [← e5]
  exact h
section
variable {P : Program} {w : World} {K : PySem.W.Frag} {mg : Str → Option Value} {base : Heap} {a : Ad}
theorem ok__law_letter (T : Txt K mg a) : FnOk P w K mg base CX0 1 a.f__law_letter a.d__law_letter ["number", "pick"] (spMake K) := by
  refine T.F__law_letter.ok sc__law_letter (fun vs H Q E h => ?_) (fun cdv A outer s H vs Q E hr h => ?_)
  · obtain ⟨n, p, rfl, _⟩ := h
    rfl
  · obtain ⟨n, p, rfl, hn, hp, q⟩ := h
    refine ⟨_, (pss_cons (ps_set (i := 2) sc__law_letter.nd rfl (Or.inl rfl) (pe_callTy call_tuple_of (by rfl) T.b_tuple (by decide +kernel) (pa_cons (pe_lc (own := [("n", 5)]) (g := gName 5) (tt := tYes) rfl sc__law_letter.nd (pi_range1 rfl T.b_range (pa_cons (pe_op op_add pe_int (pe_op op_mod (pv 0) pe_int)) pa_nil)) (blkOk_by (own := [("n", 5)]) (N := ["number", "pick", "pairs", "ticket", "kind", "n"]) (sc := defScope s__law_letter) (by decide +kernel)) (fun _ _ _ _ _ => (pg_name (i := 5) sc__law_letter.nd rfl (Or.inl rfl))) (fun _ _ _ _ _ => pts_nil) (fun _ _ _ _ _ => (pe_tup (pa_cons (pe_op op_mod (pe_op op_add (pv 1) (pv 5)) pe_int) (pa_cons (pe_op op_mod (pe_op op_add (pe_op op_fdiv (pv 1) pe_int) (pe_op op_mul pe_int (pv 5))) pe_int) pa_nil))))) pa_nil)))
    (pss_cons (ps_set (i := 3) sc__law_letter.nd rfl (Or.inl rfl) (pe_op op_add pe_int (pv 1)))
    (pss_cons (ps_set (i := 4) sc__law_letter.nd rfl (Or.inl rfl) (pe_op op_mod (pe_op op_fdiv (pv 0) pe_int) pe_int))
    (pss_cons (ps_if (pt_cmpR (op_eq) (pv 4) pe_int (nomark _)) (pss_one (ps_ret (pe_tup (pa_cons (pe_ix ix_list (pe_lst (pa_cons pe_int (pa_cons (pe_un un_neg pe_int) (pa_cons pe_bl (pa_cons pe_non pa_nil))))) (pe_op op_mod (pv 1) pe_int) (fun _ _ => rfl)) (pa_cons (pv 2) pa_nil))))) pss_nil)
    (pss_cons (ps_if (pt_cmpR (op_eq) (pv 4) pe_int (nomark _)) (pss_one (ps_ret (pe_tup (pa_cons (pv 3) (pa_cons (pe_tup pa_nil) pa_nil))))) pss_nil)
    (pss_cons (ps_if (pt_cmpR (op_eq) (pv 4) pe_int (nomark _)) (pss_one (ps_ret (pe_tup (pa_cons (pv 3) (pa_cons (pe_callTy call_list_of (by rfl) T.b_list (by decide +kernel) (pa_cons (pv 2) pa_nil)) pa_nil))))) pss_nil)
    (pss_cons (ps_if (pt_cmpR (op_eq) (pv 4) pe_int (nomark _)) (pss_one (ps_ret (pe_tup (pa_cons (pv 3) (pa_cons (pe_op op_catT (pv 2) (pe_tup (pa_cons (pe_tup (pa_cons pe_int (pa_cons pe_int pa_nil))) pa_nil))) pa_nil))))) pss_nil)
    (pss_cons (ps_if (pt_cmpR (op_eq) (pv 4) pe_int (nomark _)) (pss_one (ps_ret (pe_tup (pa_cons (pv 3) (pa_cons (pe_op op_catT (pe_tup (pa_cons (pe_tup (pa_cons pe_int (pa_cons pe_int pa_nil))) pa_nil)) (pv 2)) pa_nil))))) pss_nil)
    (pss_cons (ps_if (pt_cmpR (op_eq) (pv 4) pe_int (nomark _)) (pss_one (ps_ret (pe_tup (pa_cons (pv 3) (pa_cons (pv 2) (pa_cons pe_int pa_nil)))))) pss_nil)
    (pss_cons (ps_if (pt_cmpR (op_eq) (pv 4) pe_int (nomark _)) (pss_one (ps_ret (pe_tup (pa_cons (pv 3) (pa_cons (pe_op op_catT (pv 2) (pe_tup (pa_cons (pe_tup (pa_cons pe_int (pa_cons (pe_un un_neg pe_int) pa_nil))) pa_nil))) pa_nil))))) pss_nil)
    (pss_cons (ps_if (pt_cmpR (op_eq) (pv 4) pe_int (nomark _)) (pss_one (ps_ret (pe_ix ix_list (pe_lst (pa_cons (pe_lst (pa_cons (pv 3) (pa_cons (pv 2) pa_nil))) (pa_cons (pe_tup (pa_cons (pv 3) (pa_cons (pe_op op_catT (pv 2) (pe_tup (pa_cons (pe_tup (pa_cons pe_int pa_nil)) pa_nil))) pa_nil))) (pa_cons (pe_tup (pa_cons (pv 3) (pa_cons (pe_op op_catT (pv 2) (pe_tup (pa_cons (pe_tup (pa_cons pe_int (pa_cons pe_bl pa_nil))) pa_nil))) pa_nil))) (pa_cons pe_non pa_nil))))) (pe_op op_mod (pv 1) pe_int) (fun _ _ => rfl)))) pss_nil)
    (pss_one (ps_ret (pe_tup (pa_cons (pv 3) (pa_cons (pv 2) pa_nil)))))))))))))))), ?_⟩
    have m4 : 0 ≤ n % 4 ∧ n % 4 < 4 := ⟨Int.emod_nonneg _ (by decide), Int.emod_lt_of_pos _ (by decide)⟩
    -- pairs
    refine ⟨_, rfl, _, _, rfl, rfl, (by show (0 : Int) < 4; decide), _, _, rfl, rfl, _, rfl, by omega, by omega, fun D hD => ?_⟩
    refine lc_range (lo := 0) (n := (1 + n % 4).toNat) (fun i H' => ∃ (G : Hp) (vs : List V) (ds : List PyData), H' = upd G D (.lst vs) ∧ Same H G ∧ G D = none ∧ DpAll K G vs ds ∧ ds.length = i ∧ i ≤ 4 ∧ ∀ d ∈ ds, pairD d = true ∧ Sh 1 d)
      ⟨H, [], [], rfl, Same.refl H, hD, .nil, rfl, Nat.zero_le _, fun _ h => absurd h List.not_mem_nil⟩ ?_ ?_
    · rintro i H1 hi ⟨G, vs, ds, rfl, eS, gD, hds, el, hi4, hall⟩
      refine ⟨rfl, _, rfl, _, rfl, _, _, rfl, rfl, _, _, rfl, rfl, (by show (0 : Int) < 4; decide), _, rfl, _, _, rfl, rfl, ⟨by decide, by decide⟩, _, rfl, _, _, rfl, rfl, .inl ⟨by decide, by decide⟩, _, _, rfl, rfl,
        _, _, rfl, rfl, (by show (0 : Int) < 8; decide), (by show 2 ≤ sizeLine; decide), fun t ht => ?_⟩
      have ntD : t ≠ D := fun z => by
        rw [z, upd_same] at ht
        cases ht
      have gt : G t = none := (upd_ne ntD).symm.trans ht
      refine ⟨vs, (upd_ne (Ne.symm ntD)).trans upd_same, ?_, upd G t (.tup [.int ((p + (0 + (i : Int))) % 4), .int ((p / 4 + 3 * (0 + (i : Int))) % 8)]), vs ++ [.ref t], ds ++ [.tuple [.int ((p + (0 + (i : Int))) % 4), .int ((p / 4 + 3 * (0 + (i : Int))) % 8)]],
        ?_, eS.trans (Same.new gt), (upd_ne (Ne.symm ntD)).trans gD, dpAll_app (dpAll_mono (Same.new gt) hds) (.cons (.tup (SqT.of upd_same) (.cons (.int _) (.cons (.int _) .nil))) .nil), ?_, by omega, ?_⟩
      · rw [dpAll_len hds, el]
        exact Nat.lt_of_le_of_lt hi4 (by decide)
      · rw [upd_comm (Ne.symm ntD), upd_upd]
      · rw [List.length_append, List.length_singleton, el]
      · intro d hd
        rcases List.mem_append.mp hd with hd | hd
        · exact hall d hd
        · rw [List.mem_singleton.mp hd]
          refine ⟨?_, sh2 (sh_int _) (sh_int _)⟩
          have a0 := Int.emod_nonneg (p + (0 + (i : Int))) (by decide : (4 : Int) ≠ 0)
          have a1 := Int.emod_lt_of_pos (p + (0 + (i : Int))) (by decide : (0 : Int) < 4)
          have b0 := Int.emod_nonneg (p / 4 + 3 * (0 + (i : Int))) (by decide : (8 : Int) ≠ 0)
          have b1 := Int.emod_lt_of_pos (p / 4 + 3 * (0 + (i : Int))) (by decide : (0 : Int) < 8)
          simp only [pairD, belowD, decide_eq_true a0, decide_eq_true a1, decide_eq_true b0, decide_eq_true b1, Bool.and_self]
    · rintro H1 ⟨G, vs, ds, rfl, eS, gD, hds, el, hi4, hall⟩
      have hps : Prs ds := ⟨by omega, fun z => by rw [z] at el; simp at el; omega, hall⟩
      refine ⟨D, vs, rfl, .inl ⟨SqL.of upd_same, fun t ht => ?_⟩⟩
      have e1 : Same G (upd (upd G D (.lst vs)) t (.tup vs)) := (Same.new gD).trans (Same.new ht)
      have hT : Dp K (upd (upd G D (.lst vs)) t (.tup vs)) (.ref t) (.tuple ds) := .tup (SqT.of upd_same) (dpAll_mono e1 hds)
      have eH := eS.trans e1
      generalize upd (upd G D (.lst vs)) t (.tup vs) = H1 at hT eH ⊢
      clear e1 hds ht gD
      refine ⟨_, rfl, _, _, rfl, rfl, _, rfl, _, _, rfl, rfl, ⟨by decide, by decide⟩, _, _, rfl, rfl, (by show (0 : Int) < 16; decide), ?_⟩
      have k0 := Int.emod_nonneg (n / 8) (by decide : (16 : Int) ≠ 0)
      have k1 := Int.emod_lt_of_pos (n / 8) (by decide : (0 : Int) < 16)
      have p0 := Int.emod_nonneg p (by decide : (4 : Int) ≠ 0)
      have p1 := Int.emod_lt_of_pos p (by decide : (0 : Int) < 4)
      have fin : ∀ (v : V) (d : PyData) (H2 : Hp), Same H1 H2 → Dp K H2 v d → FewD d → Sh 3 d → letterD d = decide (7 < n / 8 % 16) → Q v H2 := fun v d H2 e => q v d H2 (eH.trans e)
      have bad : ∀ (v : V) (d : PyData) (H2 : Hp), n / 8 % 16 ≤ 7 → Same H1 H2 → Dp K H2 v d → FewD d → Sh 3 d → letterD d = false → Q v H2 := fun v d H2 hk e hd hf hs hl =>
        fin v d H2 e hd hf hs (hl.trans (decide_eq_false (by omega)).symm)
      have shP : ∀ d ∈ ds, Sh 1 d := fun d hd => (hps.2.2 d hd).2
      have shT : Sh 2 (.tuple ds) := sh_tup shP
      have posP : posD (.int (1 + p)) = true := by simp only [posD, Bool.not_eq_true', decide_eq_false_iff_not]; omega
      have len4 := hps.1
      cases hT with
      | @tup _ xs _ sT aT =>
      have lx := dpAll_len aT
      have ne : xs ≠ [] := fun z => hps.2.1 (List.eq_nil_of_length_eq_zero (by rw [← lx, z]; rfl))
      have lim5 : xs.length + 1 ≤ sizeLine := Nat.le_trans (by omega : xs.length + 1 ≤ 5) (by decide)
      clear q eH eS hall el hi4
      -- kind 0
      refine ⟨_, rfl, rfl, _, rfl, ite2 (fun c => ?_) (fun c0 => ?_)⟩
      · have hk : n / 8 % 16 ≤ 7 := by simp at c; omega
        obtain ⟨y, dy, hat, hpos, hsh, hdp⟩ : ∃ (y : V) (dy : PyData), atI [V.int 0, V.int (-3), V.bl true, V.non] (p % 4) = some y ∧ posD dy = false ∧ Sh 0 dy ∧ ∀ H', Dp K H' y dy := by
          rcases (by omega : p % 4 = 0 ∨ p % 4 = 1 ∨ p % 4 = 2 ∨ p % 4 = 3) with z | z | z | z
          · exact ⟨_, _, at_of (j := 0) z rfl, rfl, sh_int 0, fun _ => .int 0⟩
          · exact ⟨_, _, at_of (j := 1) z rfl, rfl, sh_int (-3), fun _ => .int (-3)⟩
          · exact ⟨_, _, at_of (j := 2) z rfl, rfl, sh_bool true, fun _ => .bl true⟩
          · exact ⟨_, _, at_of (j := 3) z rfl, rfl, sh_none, fun _ => .non⟩
        refine ⟨_, rfl, (by show 4 ≤ sizeLine; decide), fun l hl => ⟨_, rfl, _, _, rfl, rfl, (by show (0 : Int) < 4; decide), l, _, _, y, rfl, rfl, SqL.of upd_same, hat, _, rfl, (by show 2 ≤ sizeLine; decide), fun r hr => ?_⟩⟩
        refine bad _ (.tuple [dy, .tuple ds]) _ hk ((Same.new hl).trans (Same.new hr)) (.tup (SqT.of upd_same) (.cons (hdp _) (.cons (dp_mono ((Same.new hl).trans (Same.new hr)) (.tup sT aT)) .nil))) (few_tp (by omega)) (sh2 (hsh.up (by decide)) shT) ?_
        rw [letter_tp, hpos, Bool.false_and]
      -- kind 1
      refine ⟨_, rfl, rfl, _, rfl, ite2 (fun c => ?_) (fun c1 => ?_)⟩
      · have hk : n / 8 % 16 ≤ 7 := by simp at c; omega
        refine ⟨_, rfl, Nat.zero_le _, fun l hl => ⟨(by show 2 ≤ sizeLine; decide), fun r hr => ?_⟩⟩
        refine bad _ (.tuple [.int (1 + p), .tuple []]) _ hk ((Same.new hl).trans (Same.new hr)) (.tup (SqT.of upd_same) (.cons (.int _) (.cons (.tup (SqT.of ((Same.new hr) _ _ upd_same)) .nil) .nil))) (few_tp (by simp)) (sh2 ((sh_int _).up (by decide)) ((sh_tup (n := 0) fun _ h => absurd h List.not_mem_nil).up (by decide))) ?_
        rw [letter_tp, show manyD (.tuple []) = false by decide, Bool.and_false]
      -- kind 2
      refine ⟨_, rfl, rfl, _, rfl, ite2 (fun c => ?_) (fun c2 => ?_)⟩
      · have hk : n / 8 % 16 ≤ 7 := by simp at c; omega
        refine ⟨_, rfl, _, rfl, _, _, rfl, .inr sT, fun l hl => ⟨(by show 2 ≤ sizeLine; decide), fun r hr => ?_⟩⟩
        have e2 := (Same.new (o := .lst xs) hl).trans (Same.new (o := .tup [.int (1 + p), .ref l]) hr)
        refine bad _ (.tuple [.int (1 + p), .list ds]) _ hk e2 (.tup (SqT.of upd_same) (.cons (.int _) (.cons (.lst (SqL.of ((Same.new hr) _ _ upd_same)) (dpAll_mono e2 aT)) .nil))) (fun t2 ps2 z => by simp at z) (sh2 ((sh_int _).up (by decide)) (sh_lst shP)) ?_
        rw [letter_tp, show manyD (.list ds) = false from rfl, Bool.and_false]
      have shX : ∀ (x : PyData), Sh 1 x → Sh 3 (.tuple [.int (1 + p), .tuple (ds ++ [x])]) := fun x hx => sh2 ((sh_int _).up (by decide)) (sh_tup fun d hd => by
        rcases List.mem_append.mp hd with hd | hd
        · exact shP d hd
        · rw [List.mem_singleton.mp hd]
          exact hx)
      have badX : ∀ (x : PyData), pairD x = false → letterD (.tuple [.int (1 + p), .tuple (ds ++ [x])]) = false := fun x hx => by
        rw [letter_tp, many_bad (d := x) (by simp) hx, Bool.and_false]
      have fewX : ∀ (x : PyData), FewD (.tuple [.int (1 + p), .tuple (ds ++ [x])]) := fun x => few_tp (by rw [List.length_append, List.length_singleton]; omega)
      -- kind 3
      refine ⟨_, rfl, rfl, _, rfl, ite2 (fun c => ?_) (fun c3 => ?_)⟩
      · have hk : n / 8 % 16 ≤ 7 := by simp at c; omega
        refine ⟨_, rfl, _, rfl, (by show 2 ≤ sizeLine; decide), fun l hl => ⟨(by show 1 ≤ sizeLine; decide), fun m hm => ⟨_, _, xs, _, rfl, rfl, Same.tupS ((Same.new hl).trans (Same.new hm)) sT, SqT.of upd_same, ne, lim5, (fun z => nomatch z), fun _ u hu => ⟨(by show 2 ≤ sizeLine; decide), fun r hr => ?_⟩⟩⟩⟩
        have e4 := Same.new (o := .tup [.int (1 + p), .ref u]) hr
        have e3 := (Same.new (o := .tup (xs ++ [.ref l])) hu).trans e4
        have e2 := (Same.new (o := .tup [.ref l]) hm).trans e3
        have e1 := (Same.new (o := .tup [.int 4, .int 0]) hl).trans e2
        exact bad _ (.tuple [.int (1 + p), .tuple (ds ++ [.tuple [.int 4, .int 0]])]) _ hk e1 (.tup (SqT.of upd_same) (.cons (.int _) (.cons (.tup (SqT.of (e4 _ _ upd_same)) (dpAll_app (dpAll_mono e1 aT) (.cons (.tup (SqT.of (e2 _ _ upd_same)) (.cons (.int _) (.cons (.int _) .nil))) .nil))) .nil)))
          (fewX _) (shX _ (sh2 (sh_int _) (sh_int _))) (badX _ (by decide))
      -- kind 4
      refine ⟨_, rfl, rfl, _, rfl, ite2 (fun c => ?_) (fun c4 => ?_)⟩
      · have hk : n / 8 % 16 ≤ 7 := by simp at c; omega
        refine ⟨_, rfl, (by show 2 ≤ sizeLine; decide), fun l hl => ⟨(by show 1 ≤ sizeLine; decide), fun m hm => ⟨_, rfl, _, _, _, xs, rfl, rfl, SqT.of upd_same, Same.tupS ((Same.new hl).trans (Same.new hm)) sT, (fun z => nomatch z), (by show 1 + xs.length ≤ sizeLine; omega), fun z => absurd z ne, fun _ u hu => ⟨(by show 2 ≤ sizeLine; decide), fun r hr => ?_⟩⟩⟩⟩
        have e4 := Same.new (o := .tup [.int (1 + p), .ref u]) hr
        have e3 := (Same.new (o := .tup ([.ref l] ++ xs)) hu).trans e4
        have e2 := (Same.new (o := .tup [.ref l]) hm).trans e3
        have e1 := (Same.new (o := .tup [.int 0, .int 8]) hl).trans e2
        refine bad _ (.tuple [.int (1 + p), .tuple ([.tuple [.int 0, .int 8]] ++ ds)]) _ hk e1 (.tup (SqT.of upd_same) (.cons (.int _) (.cons (.tup (SqT.of (e4 _ _ upd_same)) (dpAll_app (.cons (.tup (SqT.of (e2 _ _ upd_same)) (.cons (.int _) (.cons (.int _) .nil))) .nil) (dpAll_mono e1 aT))) .nil)))
          (few_tp (by rw [List.length_append, List.length_singleton]; omega)) (sh2 ((sh_int _).up (by decide)) (sh_tup fun d hd => ?_)) ?_
        · rcases List.mem_append.mp hd with hd | hd
          · rw [List.mem_singleton.mp hd]
            exact sh2 (sh_int _) (sh_int _)
          · exact shP d hd
        · rw [letter_tp, many_bad (d := .tuple [.int 0, .int 8]) (by simp) (by decide), Bool.and_false]
      -- kind 5
      refine ⟨_, rfl, rfl, _, rfl, ite2 (fun c => ?_) (fun c5 => ?_)⟩
      · have hk : n / 8 % 16 ≤ 7 := by simp at c; omega
        refine ⟨_, rfl, _, rfl, (by show 3 ≤ sizeLine; decide), fun r hr => ?_⟩
        refine bad _ (.tuple [.int (1 + p), .tuple ds, .int 1]) _ hk (Same.new hr) (.tup (SqT.of upd_same) (.cons (.int _) (.cons (dp_mono (Same.new hr) (.tup sT aT)) (.cons (.int _) .nil)))) (fun t2 ps2 z => by simp at z) (sh_tup fun d hd => ?_) rfl
        simp only [List.mem_cons, List.not_mem_nil, or_false] at hd
        rcases hd with rfl | rfl | rfl
        · exact (sh_int _).up (by decide)
        · exact shT
        · exact (sh_int _).up (by decide)
      -- kind 6
      refine ⟨_, rfl, rfl, _, rfl, ite2 (fun c => ?_) (fun c6 => ?_)⟩
      · have hk : n / 8 % 16 ≤ 7 := by simp at c; omega
        refine ⟨_, rfl, _, rfl, _, rfl, (by show 2 ≤ sizeLine; decide), fun l hl => ⟨(by show 1 ≤ sizeLine; decide), fun m hm => ⟨_, _, xs, _, rfl, rfl, Same.tupS ((Same.new hl).trans (Same.new hm)) sT, SqT.of upd_same, ne, lim5, (fun z => nomatch z), fun _ u hu => ⟨(by show 2 ≤ sizeLine; decide), fun r hr => ?_⟩⟩⟩⟩
        have e4 := Same.new (o := .tup [.int (1 + p), .ref u]) hr
        have e3 := (Same.new (o := .tup (xs ++ [.ref l])) hu).trans e4
        have e2 := (Same.new (o := .tup [.ref l]) hm).trans e3
        have e1 := (Same.new (o := .tup [.int 0, .int (-1)]) hl).trans e2
        exact bad _ (.tuple [.int (1 + p), .tuple (ds ++ [.tuple [.int 0, .int (-1)]])]) _ hk e1 (.tup (SqT.of upd_same) (.cons (.int _) (.cons (.tup (SqT.of (e4 _ _ upd_same)) (dpAll_app (dpAll_mono e1 aT) (.cons (.tup (SqT.of (e2 _ _ upd_same)) (.cons (.int _) (.cons (.int _) .nil))) .nil))) .nil)))
          (fewX _) (shX _ (sh2 (sh_int _) (sh_int _))) (badX _ (by decide))
      -- kind 7
      refine ⟨_, rfl, rfl, _, rfl, ite2 (fun c => ?_) (fun c7 => ?_)⟩
      · have hk : n / 8 % 16 ≤ 7 := by simp at c; omega
        refine ⟨_, rfl, _, rfl, (by show 2 ≤ sizeLine; decide), fun la hla => ⟨_, rfl, _, rfl, (by show 1 ≤ sizeLine; decide), fun l1 h1 => ⟨(by show 1 ≤ sizeLine; decide), fun m1 hm1 =>
          ⟨_, _, xs, _, rfl, rfl, Same.tupS ((Same.new hla).trans ((Same.new h1).trans (Same.new hm1))) sT, SqT.of upd_same, ne, lim5, (fun z => nomatch z), fun _ u1 hu1 => ⟨(by show 2 ≤ sizeLine; decide), fun b1 hb1 => ⟨_, rfl, _, rfl, (by show 2 ≤ sizeLine; decide), fun l2 h2 => ⟨(by show 1 ≤ sizeLine; decide), fun m2 hm2 =>
          ⟨_, _, xs, _, rfl, rfl, Same.tupS ((Same.new hla).trans ((Same.new h1).trans ((Same.new hm1).trans ((Same.new hu1).trans ((Same.new hb1).trans ((Same.new h2).trans (Same.new hm2))))))) sT, SqT.of upd_same, ne, lim5, (fun z => nomatch z), fun _ u2 hu2 =>
          ⟨(by show 2 ≤ sizeLine; decide), fun b2 hb2 => ⟨(by show 4 ≤ sizeLine; decide), fun L hL => ?_⟩⟩⟩⟩⟩⟩⟩⟩⟩⟩
        have g0 := Same.new (o := .lst [.ref la, .ref b1, .ref b2, .non]) hL
        have g1 := (Same.new (o := .tup [.int (1 + p), .ref u2]) hb2).trans g0
        have g2 := (Same.new (o := .tup (xs ++ [.ref l2])) hu2).trans g1
        have g3 := (Same.new (o := .tup [.ref l2]) hm2).trans g2
        have g4 := (Same.new (o := .tup [.int 0, .bl true]) h2).trans g3
        have g5 := (Same.new (o := .tup [.int (1 + p), .ref u1]) hb1).trans g4
        have g6 := (Same.new (o := .tup (xs ++ [.ref l1])) hu1).trans g5
        have g7 := (Same.new (o := .tup [.ref l1]) hm1).trans g6
        have g8 := (Same.new (o := .tup [.int 1]) h1).trans g7
        have g9 := (Same.new (o := .lst [.int (1 + p), .ref t]) hla).trans g8
        have dA := Dp.lst (K := K) (SqL.of (g8 _ _ upd_same)) (.cons (.int (1 + p)) (.cons (dp_mono g9 (.tup sT aT)) .nil))
        have dB := Dp.tup (K := K) (SqT.of (g4 _ _ upd_same)) (.cons (.int (1 + p)) (.cons (.tup (SqT.of (g5 _ _ upd_same)) (dpAll_app (dpAll_mono g9 aT) (.cons (.tup (SqT.of (g7 _ _ upd_same)) (.cons (.int 1) .nil)) .nil))) .nil))
        have dC := Dp.tup (K := K) (SqT.of (g0 _ _ upd_same)) (.cons (.int (1 + p)) (.cons (.tup (SqT.of (g1 _ _ upd_same)) (dpAll_app (dpAll_mono g9 aT) (.cons (.tup (SqT.of (g3 _ _ upd_same)) (.cons (.int 0) (.cons (.bl true) .nil))) .nil))) .nil))
        refine ⟨_, rfl, _, _, rfl, rfl, (by show (0 : Int) < 4; decide), ?_⟩
        rcases (by omega : p % 4 = 0 ∨ p % 4 = 1 ∨ p % 4 = 2 ∨ p % 4 = 3) with z | z | z | z
        · refine ⟨L, _, _, .ref la, rfl, rfl, SqL.of upd_same, at_of (j := 0) z rfl, ?_⟩
          refine bad _ _ _ hk g9 dA (fun t2 ps2 w2 => by cases w2) (sh_lst fun d hd => ?_) rfl
          rcases List.mem_cons.mp hd with rfl | hd
          · exact (sh_int _).up (by decide)
          · rw [List.mem_singleton.mp hd]
            exact shT
        · refine ⟨L, _, _, .ref b1, rfl, rfl, SqL.of upd_same, at_of (j := 1) z rfl, ?_⟩
          exact bad _ _ _ hk g9 dB (fewX _) (shX _ (sh_tup fun d hd => (List.mem_singleton.mp hd) ▸ sh_int 1)) (badX _ (by decide))
        · refine ⟨L, _, _, .ref b2, rfl, rfl, SqL.of upd_same, at_of (j := 2) z rfl, ?_⟩
          exact bad _ _ _ hk g9 dC (fewX _) (shX _ (sh2 (sh_int _) (sh_bool _))) (badX _ (by decide))
        · refine ⟨L, _, _, .non, rfl, rfl, SqL.of upd_same, at_of (j := 3) z rfl, ?_⟩
          exact bad _ _ _ hk g9 .non (fun t2 ps2 w2 => by cases w2) (sh_none.up (by decide)) rfl
      · have hk : 7 < n / 8 % 16 := by
          simp at c0 c1 c2 c3 c4 c5 c6 c7
          omega
        refine ⟨_, rfl, _, rfl, (by show 2 ≤ sizeLine; decide), fun r hr => ?_⟩
        refine fin _ (.tuple [.int (1 + p), .tuple ds]) _ (Same.new hr) (.tup (SqT.of upd_same) (.cons (.int _) (.cons (dp_mono (Same.new hr) (.tup sT aT)) .nil))) (few_tp (by omega)) (sh2 ((sh_int _).up (by decide)) shT) ?_
        rw [letter_tp, posP, hps.many, decide_eq_true hk]
        rfl
end

/-! ### the law -/
def spTold (K : PySem.W.Frag) (C : Addr) : Sp := fun vs H Q _ => ∃ (b dx l : Addr) (zs : List V) (v : V) (d : PyData), vs = [.ref b, v] ∧ BoxAt C H b dx l zs ∧ zs.length ≤ 1000 ∧ Dp K H v d ∧ FewD d ∧
  (letterD d = true → ∀ H', Same H H' → Q .non (upd H' l (.lst (zs ++ [v])))) ∧ (letterD d = false → ∀ H' p, Same H H' → H' p = some (.lst [.bl true]) → Q (.ref p) H')
def spLaw (K : PySem.W.Frag) : Sp := fun vs H Q _ => ∃ (p : Addr) (ns : List Int), vs = [.ref p] ∧ SqL K H p (ns.map V.int) ∧ ns.length ≤ 63 ∧ ∀ H', Q (.bl true) H'
theorem below_int {d : PyData} {n : Int} (h : belowD d n = true) : noL d = true := by
  cases d with
  | int i => simp only [noL]
  | _ => simp [belowD] at h
theorem pair_nol {d : PyData} (h : pairD d = true) : noL d = true := by
  unfold pairD at h
  split at h
  · rename_i x y
    have h2 : belowD x 4 = true ∧ belowD y 8 = true := by simpa using h
    simp only [noL, noLs, below_int h2.1, below_int h2.2, Bool.and_self]
  · cases h
theorem letter_nol {d : PyData} (h : letterD d = true) : noL d = true := by
  unfold letterD at h
  split at h
  · rename_i t p
    have h2 : posD t = true ∧ manyD p = true := by simpa using h
    have ht : noL t = true := by
      cases t with
      | int i => simp only [noL]
      | _ => simp [posD] at h2
    have hp : noL p = true := by
      cases p with
      | tuple ps =>
        have e : manyD (.tuple ps) = (!decide ((ps.length : Int) = 0) && ps.all pairD) := rfl
        rw [e] at h2
        have h3 : ps.all pairD = true := (Bool.and_eq_true_iff.mp h2.2).2
        exact noL_tup fun d hd => pair_nol (List.all_eq_true.mp h3 d hd)
      | _ => simp [manyD] at h2
    simp only [noL, noLs, ht, hp, Bool.and_self]
  · cases h
structure LI (K : PySem.W.Frag) (C : Addr) (H : Hp) (b dx l r tp : Addr) (ts : List Int) (zs rs : List V) (ds : List PyData) : Prop where
  box : BoxAt C H b dx l zs
  rows : H r = some (.lst rs)
  tape : H tp = some (.lst (ts.map V.int))
  rl : r ≠ l
  tl : tp ≠ l
  dat : DpAll K H zs ds
  nol : ∀ d ∈ ds, noL d = true
  sh : ∀ d ∈ ds, Sh 3 d
section
variable {K : PySem.W.Frag} {C : Addr} {H H2 : Hp} {b dx l r tp : Addr} {ts : List Int} {zs rs : List V} {ds : List PyData}
theorem LI.same (L : LI K C H b dx l r tp ts zs rs ds) (e : Same H H2) : LI K C H2 b dx l r tp ts zs rs ds :=
  ⟨⟨e _ _ L.box.ins, e _ _ L.box.lst⟩, e _ _ L.rows, e _ _ L.tape, L.rl, L.tl, dpAll_mono e L.dat, L.nol, L.sh⟩
theorem LI.put (L : LI K C H b dx l r tp ts zs rs ds) {zs2 : List V} {ds2 : List PyData} (h : DpAll K H zs2 ds2) (n : ∀ d ∈ ds2, noL d = true) (s : ∀ d ∈ ds2, Sh 3 d) :
    LI K C (upd H l (.lst zs2)) b dx l r tp ts zs2 rs ds2 :=
  ⟨⟨(upd_ne (ne_of L.box.ins L.box.lst (fun z => nomatch z))).trans L.box.ins, upd_same⟩, (upd_ne L.rl).trans L.rows, (upd_ne L.tl).trans L.tape, L.rl, L.tl, dpAll_keep (KT.lst L.box.lst) (noLs_of n) h, n, s⟩
theorem LI.rows2 (L : LI K C H b dx l r tp ts zs rs ds) {r2 : Addr} {rs2 : List V} (e : Same H H2) (f : H r2 = none) (h : H2 r2 = some (.lst rs2)) : LI K C H2 b dx l r2 tp ts zs rs2 ds :=
  ⟨⟨e _ _ L.box.ins, e _ _ L.box.lst⟩, h, e _ _ L.tape, (fun z => by rw [z, L.box.lst] at f; cases f), L.tl, dpAll_mono e L.dat, L.nol, L.sh⟩
theorem LI.dRows (L : LI K C H b dx l r tp ts zs zs ds) : Dp K H (.ref r) (.list ds) := .lst (SqL.of L.rows) L.dat
theorem LI.shR (L : LI K C H b dx l r tp ts zs rs ds) : Sh 4 (.list ds) := sh_lst L.sh
end
section
variable {P : Program} {w : World} {K : PySem.W.Frag} {mg : Str → Option Value} {base : Heap} {a : Ad}
theorem ok__law_told (T : Txt K mg a) : FnOk P w K mg base CX0 7 a.f__law_told a.d__law_told ["box", "letter"] (spTold K a.C_Box) := by
  refine T.F__law_told.ok sc__law_told (fun vs H Q E h => ?_) (fun cdv A outer s H vs Q E hr h => ?_)
  · obtain ⟨b, dx, l, zs, v, d, rfl, _⟩ := h
    rfl
  · obtain ⟨b, dx, l, zs, v, d, rfl, hB, hz, hd, few, yes, no⟩ := h
    refine ⟨_, (pss_one (ps_try_as (i := 2) rfl rfl sc__law_told.nd rfl rfl ⟨rfl, by decide, Or.inl T.m_PageError⟩ takes0 (fun W pn xe tk _ => (pss_one (ps_ret (pe_methW (pv 0) T.c_Box T.M_Box_send (ok_Box_send T) (hr.mono (by decide)) T.B_Box_send (fun σ => passAt tk σ) (pa_cons (pv 1) pa_nil)))))
    (fun ea oe cls d pn hz hf => pss_under (P := cls = .ref a.C_NotValid ∧ d = none) fun hh => by
      obtain ⟨rfl, rfl⟩ := hh
      exact (pss_one (ps_ret (pe_lst (pa_cons (pe_callB (call_isE T.e_NotValid hz hf) (by rfl) T.b_isinstance (by decide +kernel) (pa_cons (pv 2) (pa_cons (pe_glob (v := .ref a.C_NotValid) rfl T.m_NotValid rfl) pa_nil))) pa_nil))))))), ?_⟩
    refine ⟨_, rfl, b, dx, _, rfl, hB.ins, rfl, _, rfl, b, dx, l, zs, v, d, rfl, hB, hz, hd, few, fun e H1 e1 => yes e H1 e1, fun e H1 e1 => ?_⟩
    refine ⟨true, PySem.W.exm_ref T.p1 T.p2 T.p3 T.p4, fun _ ea hea => ?_, fun z => nomatch z⟩
    refine ⟨⟨rfl, rfl⟩, _, rfl, _, _, _, rfl, (fun u r => r), T.q4, (by show 1 ≤ sizeLine; decide), fun p hp => ?_⟩
    exact no e _ p (e1.trans (Same.new hp)) upd_same
--CUT--
theorem ok_law (T : Txt K mg a) : FnOk P w K mg base CX0 8 a.f_law a.d_law ["script"] (spLaw K) := by
  refine T.F_law.ok sc_law (fun vs H Q E h => ?_) (fun cdv A outer s H vs Q E hr h => ?_)
  · obtain ⟨p, ns, rfl, _⟩ := h
    rfl
  · obtain ⟨sp, ns, rfl, hS, hlen, q⟩ := h
    refine ⟨_, (pss_cons (ps_set (i := 1) sc_law.nd rfl (Or.inl rfl) (pe_call (ok__law_tape T) (hr.mono (by decide)) rfl T.m__law_tape T.F__law_tape.kp T.B__law_tape .nil pass0 (pa_cons (pv 0) pa_nil)))
    (pss_cons (ps_set (i := 2) sc_law.nd rfl (Or.inl rfl) (pe_make0 T.mk_Box (ok_Box_init T) (hr.mono (by decide)) rfl T.m_Box T.B_Box_init .nil pass0))
    (pss_cons (ps_set (i := 3) sc_law.nd rfl (Or.inl rfl) (pe_lst pa_nil))
    (pss_cons (ps_for PassesOwn.never rfl (pi_range1 rfl T.b_range (pa_cons (pe_callB (call_min2 rfl) (by rfl) T.b_min (by decide +kernel) (pa_cons pe_int (pa_cons (pe_op op_fdiv (pe_callB call_len_seq (by rfl) T.b_len (by decide +kernel) (pa_cons (pv 1) pa_nil)) pe_int) pa_nil))) pa_nil)) (pg_name (i := 4) sc_law.nd rfl (Or.inl rfl))
    (pss_cons (ps_set (i := 5) sc_law.nd rfl (Or.inl rfl) (pe_call (ok__law_at T) (hr.mono (by decide)) rfl T.m__law_at T.F__law_at.kp T.B__law_at .nil pass0 (pa_cons (pv 1) (pa_cons (pe_op op_mul pe_int (pv 4)) pa_nil))))
    (pss_cons (ps_set (i := 6) sc_law.nd rfl (Or.inl rfl) (pe_call (ok__law_at T) (hr.mono (by decide)) rfl T.m__law_at T.F__law_at.kp T.B__law_at .nil pass0 (pa_cons (pv 1) (pa_cons (pe_op op_add (pe_op op_mul pe_int (pv 4)) pe_int) pa_nil))))
    (pss_mid (ps_if (pt_cmpR (op_lt) (pe_op op_mod (pv 5) pe_int) pe_int (nomark _)) (pss_cons (ps_set (i := 7) sc_law.nd rfl (Or.inl rfl) (pe_call (ok__law_letter T) (hr.mono (by decide)) rfl T.m__law_letter T.F__law_letter.kp T.B__law_letter .nil pass0 (pa_cons (pe_op op_fdiv (pv 5) pe_int) (pa_cons (pv 6) pa_nil))))
    (pss_cons (ps_set (i := 8) sc_law.nd rfl (Or.inl rfl) (pe_cmpR (op_gt) (pe_op op_mod (pe_op op_fdiv (pe_op op_fdiv (pv 5) pe_int) pe_int) pe_int) pe_int (nomark _)))
    (pss_cons (ps_set (i := 9) sc_law.nd rfl (Or.inl rfl) (pe_call (ok__law_told T) (hr.mono (by decide)) rfl T.m__law_told T.F__law_told.kp T.B__law_told .nil pass0 (pa_cons (pv 2) (pa_cons (pv 7) pa_nil))))
    (pss_cons (ps_if (PW.pt (pw_or (PW.pt (pw_and (pt_val (pv 8)) (pw_and1 (pt_cmpR (op_notN) (pv 9) pe_non (by rfl))))) (pw_or1 (PW.pt (pw_and (pt_not (pt_val (pv 8))) (pw_and1 (pt_cmpR (op_neD hr.units) (pv 9) (pe_lst (pa_cons pe_bl pa_nil)) (nomark _)))))))) (pss_one (ps_ret pe_bl)) pss_nil)
    (pss_one (ps_if (pt_val (pv 8)) (pss_one (ps_set (i := 3) sc_law.nd rfl (Or.inl rfl) (pe_op op_cat (pv 3) (pe_lst (pa_cons (pv 7) pa_nil))))) pss_nil)))))) (pss_cons (ps_set (i := 7) sc_law.nd rfl (Or.inl rfl) (pe_meth0 (pv 2) T.c_Box T.M_Box_take (ok_Box_take T) (hr.mono (by decide)) T.B_Box_take .nil pass0))
    (pss_one (ps_if (pt_cmpR (op_eqD hr.units) (pv 3) (pe_lst pa_nil) (nomark _)) (pss_one (ps_if (pt_cmpR (op_notN) (pv 7) pe_non (by rfl)) (pss_one (ps_ret pe_bl)) pss_nil)) (pss_cons (ps_if (pt_cmpR (op_neD hr.units) (pv 7) (pe_ix ix_list (pv 3) pe_int (fun _ _ => rfl)) (nomark _)) (pss_one (ps_ret pe_bl)) pss_nil)
    (pss_one (ps_set (i := 3) sc_law.nd rfl (Or.inl rfl) (pe_slice sl_list (pv 3) (po_some pe_int) po_none))))))))
    (pss_cons (ps_set (i := 9) sc_law.nd rfl (Or.inl rfl) (pe_meth0 (pv 2) T.c_Box T.M_Box_letters (ok_Box_letters T) (hr.mono (by decide)) T.B_Box_letters .nil pass0))
    (pss_cons (ps_if (PW.pt (pw_or (pt_not (pt_val (pe_callB call_isi (by rfl) T.b_isinstance (by decide +kernel) (pa_cons (pv 9) (pa_cons (pe_bltn (v := .ty "list") rfl T.b_list (by decide +kernel) rfl) pa_nil))))) (pw_or1 (pt_cmpR (op_neD hr.units) (pv 9) (pv 3) (nomark _))))) (pss_one (ps_ret pe_bl)) pss_nil)
    (pss_one (ps_expr (pe_bm PySem.F.plainAttrs_list PySem.F.slot_list_append PySem.F.type_list_append mt_append (pv 9) (pa_cons pe_int pa_nil))))))))))
    (pss_one (ps_ret (pe_cmpR (op_eqD hr.units) (pe_meth0 (pv 2) T.c_Box T.M_Box_letters (ok_Box_letters T) (hr.mono (by decide)) T.B_Box_letters .nil pass0) (pv 3) (nomark _)))))))), ?_⟩
    refine ⟨_, rfl, sp, ns, rfl, hS, hlen, fun H1 tp ts e1 tp0 tpL dg tl => ?_⟩
    refine fun b dx nb ndx nbd => ?_
    refine ⟨b, dx, rfl, upd_same, fun l hl => ⟨rfl, Nat.zero_le _, fun r hr => ?_⟩⟩
    have nlb : l ≠ b := fun z => by rw [z, upd_same] at hl; cases hl
    have nldx : l ≠ dx := fun z => by rw [z, upd_ne nbd, upd_same] at hl; cases hl
    have hl0 : H1 l = none := by rw [upd_ne nlb, upd_ne nldx] at hl; exact hl
    have ntp : ∀ {x : Addr}, H1 x = none → tp ≠ x := fun n z => by rw [z, n] at tpL; cases tpL
    have nrb : r ≠ b := fun z => by rw [z, upd_same] at hr; cases hr
    have nrl : r ≠ l := fun z => by rw [z, upd_ne nlb, upd_same] at hr; cases hr
    have hr0 : H1 r = none := by
      rw [upd_ne nrb, upd_ne nrl, upd_ne nrb] at hr
      by_cases z : r = dx
      · rw [z, upd_same] at hr
        cases hr
      · rw [upd_ne z] at hr
        exact hr
    have L0 : LI K a.C_Box (upd (upd (upd (upd (upd H1 dx (.own b)) b (.ins a.C_Box dx [])) l (.lst [])) b (.ins a.C_Box dx [("_letters", .ref l)])) r (.lst [])) b dx l r tp ts [] [] [] := by
      refine ⟨⟨?_, ?_⟩, upd_same, ?_, nrl, ntp hl0, .nil, fun _ h => absurd h List.not_mem_nil, fun _ h => absurd h List.not_mem_nil⟩
      · rw [upd_ne (Ne.symm nrb), upd_same]
      · rw [upd_ne (Ne.symm nrl), upd_ne nlb, upd_same]
      · rw [upd_ne (ntp hr0), upd_ne (ntp nb), upd_ne (ntp hl0), upd_ne (ntp nb), upd_ne (ntp ndx)]
        exact tpL
    generalize upd (upd (upd (upd (upd H1 dx (.own b)) b (.ins a.C_Box dx [])) l (.lst [])) b (.ins a.C_Box dx [("_letters", .ref l)])) r (.lst []) = H2 at L0 ⊢
    clear hr hl
    refine ⟨_, rfl, tp, _, rfl, .inl (SqL.of L0.tape), _, _, rfl, rfl, ⟨by decide, by decide⟩, _, _, rfl, ?_⟩
    have lb : (0 : Int) ≤ ((ts.map V.int).length : Int) / 2 := Int.ediv_nonneg (Int.natCast_nonneg _) (by decide)
    refine ⟨_, rfl, ?_, ?_, for_range (lo := 0) (n := (if ((ts.map V.int).length : Int) / 2 < 30 then ((ts.map V.int).length : Int) / 2 else 30).toNat)
      (fun i σ H' => ∃ (r : Addr) (x4 x5 x6 x7 x8 x9 : Option V) (zs : List V) (ds : List PyData), σ = [some (.ref sp), some (.ref tp), some (.ref b), some (.ref r), x4, x5, x6, x7, x8, x9] ∧ LI K a.C_Box H' b dx l r tp ts zs zs ds ∧ zs.length ≤ i)
      ⟨r, _, _, _, _, _, _, [], [], rfl, L0, Nat.zero_le _⟩ ?_ ?_⟩
    · split <;> omega
    · split <;> omega
    · rintro i σ H3 hi ⟨r, x4, x5, x6, x7, x8, x9, zs, ds, rfl, L, hz⟩
      have i30 : i < 30 := by split at hi <;> omega
      -- number, pick
      refine ⟨_, rfl, _, rfl, _, _, rfl, rfl, .inl ⟨by decide, by decide⟩, tp, ts, _, rfl, SqL.of L.tape, by omega, dg, fun num n0 n1 => ?_⟩
      refine ⟨_, rfl, _, rfl, _, _, rfl, rfl, .inl ⟨by decide, by decide⟩, _, _, rfl, rfl, tp, ts, _, rfl, SqL.of L.tape, by omega, dg, fun pick p0 p1 => ?_⟩
      have mod3 : 0 ≤ num / 3 := Int.ediv_nonneg n0 (by decide)
      refine ⟨fun σ' H' => ∃ (r : Addr) (x7 x8 x9 : Option V) (zs : List V) (ds : List PyData), σ' = [some (.ref sp), some (.ref tp), some (.ref b), some (.ref r), some (.int (0 + (i : Int))), some (.int num), some (.int pick), x7, x8, x9] ∧ LI K a.C_Box H' b dx l r tp ts zs zs ds ∧ zs.length ≤ i + 1,
        ?_, ?_⟩
      refine ⟨_, rfl, _, _, rfl, rfl, (by show (0 : Int) < 3; decide), _, _, rfl, rfl, _, rfl, ite2 (fun c => ?_) (fun c => ?_)⟩
      · -- letter, valid, told
        refine ⟨_, rfl, _, _, rfl, rfl, ⟨by decide, by decide⟩, _, rfl, _, _, rfl, mod3, p0, fun v d H4 e4 hd few sh hv => ?_⟩
        have L4 := L.same e4
        refine ⟨_, rfl, _, _, rfl, rfl, ⟨by decide, by decide⟩, _, _, rfl, rfl, ⟨by decide, by decide⟩, _, _, rfl, rfl, (by show (0 : Int) < 16; decide), _, _, rfl, rfl, ?_⟩
        refine ⟨_, rfl, _, rfl, b, dx, l, zs, v, d, rfl, L4.box, by omega, hd, few, fun ok H5 e5 => ?_, fun no H5 tl5 e5 at5 => ?_⟩
        · -- a letter
          rw [ok] at hv
          have hv2 := congrArg V.bl hv.symm
          have L6 := (L4.same e5).put (zs2 := zs ++ [v]) (ds2 := ds ++ [d]) (dpAll_app (L4.same e5).dat (.cons (dp_mono e5 hd) .nil))
            (fun x hx => by
              rcases List.mem_append.mp hx with hx | hx
              · exact L4.nol x hx
              · rw [List.mem_singleton.mp hx]
                exact letter_nol ok)
            (fun x hx => by
              rcases List.mem_append.mp hx with hx | hx
              · exact L4.sh x hx
              · rw [List.mem_singleton.mp hx]
                exact sh)
          refine ⟨_, rfl, true, hv2, _, rfl, rfl, _, rfl, _, rfl, true, hv2, ?_⟩
          refine iteF ⟨_, rfl, true, hv2, ?_⟩
          refine iteT ⟨_, rfl, _, rfl, (by show 1 ≤ sizeLine; decide), fun t ht => ⟨r, t, zs, [v], rfl, rfl, (Same.new ht) _ _ L6.rows, upd_same, Nat.le_trans (by show zs.length + 1 ≤ 100; omega) (by decide), fun r2 hr2 => ?_⟩⟩
          have f2 := (Same.new (o := .lst [v]) ht).free hr2
          refine ⟨r2, _, _, _, zs ++ [v], ds ++ [d], rfl, L6.rows2 ((Same.new ht).trans (Same.new hr2)) f2 upd_same, ?_⟩
          rw [List.length_append, List.length_singleton]
          omega
        · -- none
          rw [no] at hv
          have hv2 := congrArg V.bl hv.symm
          have L5 := L4.same e5
          refine ⟨_, rfl, false, hv2, _, rfl, false, hv2, _, rfl, (by show 1 ≤ sizeLine; decide), fun t ht => ?_⟩
          have one : ∀ (G : Hp) (x : Addr), G x = some (.lst [.bl true]) → Dp K G (.ref x) (.list [.bool true]) := fun G x h => .lst (SqL.of h) (.cons (.bl true) .nil)
          have s1 : Sh 1 (.list [.bool true]) := sh_lst fun d hd => (List.mem_singleton.mp hd) ▸ sh_bool true
          refine ⟨_, _, one _ _ ((Same.new ht) _ _ at5), one _ t upd_same, s1.ok, s1.ok, _, rfl, ?_⟩
          refine ifF (by rw [s1.refl]; rfl) ⟨_, rfl, false, hv2, ?_⟩
          exact iteF ⟨r, _, _, _, zs, ds, rfl, L5.same (Same.new ht), by omega⟩
      · -- taken
        refine ⟨_, rfl, b, dx, _, rfl, L.box.ins, rfl, b, dx, l, zs, rfl, L.box, fun z => ?_, fun z zs2 ez => ?_⟩
        · subst z
          have e0 : ds = [] := List.eq_nil_of_length_eq_zero (by rw [← dpAll_len L.dat]; rfl)
          subst e0
          have s1 : Sh 1 (.list []) := sh_lst fun d hd => absurd hd List.not_mem_nil
          refine ⟨_, rfl, Nat.zero_le _, fun t ht => ⟨_, _, .lst (SqL.of ((Same.new ht) _ _ L.rows)) .nil, .lst (SqL.of upd_same) .nil, s1.ok, s1.ok, _, rfl, ?_⟩⟩
          refine ifT s1.refl ⟨_, rfl, rfl, _, rfl, ?_⟩
          exact iteF ⟨r, _, _, _, [], [], rfl, L.same (Same.new ht), Nat.zero_le _⟩
        · subst ez
          obtain ⟨d, ds2, e0⟩ : ∃ d ds2, ds = d :: ds2 := by
            cases ds with
            | nil => exact absurd (dpAll_len L.dat) (by simp)
            | cons d ds2 => exact ⟨d, ds2, rfl⟩
          subst e0
          have dA := L.dat
          cases dA with
          | cons dz drest =>
          have L5 := L.put (zs2 := zs2) (ds2 := ds2) drest (fun x hx => L.nol x (List.mem_cons_of_mem _ hx)) (fun x hx => L.sh x (List.mem_cons_of_mem _ hx))
          have kt : KT H3 (upd H3 l (.lst zs2)) := KT.lst L.box.lst
          have dR : Dp K (upd H3 l (.lst zs2)) (.ref r) (.list (d :: ds2)) := .lst (SqL.of L5.rows) (dpAll_keep kt (noLs_of L.nol) L.dat)
          have dz2 := dp_keep kt (L.nol d (List.mem_cons_self ..)) dz
          have shd := L.sh d (List.mem_cons_self ..)
          have s0 : Sh 1 (.list []) := sh_lst fun d hd => absurd hd List.not_mem_nil
          refine ⟨_, rfl, Nat.zero_le _, fun t ht => ⟨_, _, dp_mono (Same.new ht) dR, .lst (SqL.of upd_same) .nil, (L.shR).ok, s0.ok, _, rfl, ?_⟩⟩
          refine ifF rfl ⟨_, rfl, _, rfl, r, _, 0, _, rfl, rfl, SqL.of ((Same.new ht) _ _ L5.rows), at_of (j := 0) rfl rfl, d, d, dp_mono (Same.new ht) dz2, dp_mono (Same.new ht) dz2, shd.ok, shd.ok, _, rfl, ?_⟩
          refine ifF (by rw [shd.refl]; rfl) ⟨_, rfl, 1, rfl, r, _, rfl, SqL.of ((Same.new ht) _ _ L5.rows), fun r2 hr2 => ?_⟩
          have f2 := (Same.new (o := .lst []) ht).free hr2
          have ecut : cutV (z :: zs2) (some 1) none = zs2 := by
            unfold cutV
            have e1 : HT.sIx (z :: zs2).length 0 (some 1) = 1 := by
              have := HT.sIx_nat (z :: zs2).length 0 1
              simpa using this
            rw [e1, HT.sIx_none]
            simp
          refine ⟨r2, _, _, _, zs2, ds2, rfl, L5.rows2 ((Same.new ht).trans (Same.new hr2)) f2 (by rw [upd_same, ecut]), ?_⟩
          simp at hz
          omega
      · -- the letters that are left
        rintro σ4 H4 ⟨r, x7, x8, x9, zs, ds, rfl, L4, hz4⟩
        refine ⟨_, rfl, b, dx, _, rfl, L4.box.ins, rfl, b, dx, l, zs, rfl, L4.box, fun t ht => ?_⟩
        have L5 := L4.same (Same.new (o := .lst zs) ht)
        have tT : upd H4 t (.lst zs) t = some (.lst zs) := upd_same
        refine ⟨_, rfl, _, _, _, _, _, rfl, .ty _, .base (.lst tT), (kit_lst (.list [])), _, rfl, _, rfl, _, rfl, _, _, .lst (SqL.of tT) L5.dat, L5.dRows, L5.shR.ok, L5.shR.ok, _, rfl, ?_⟩
        refine ifF (by rw [L5.shR.refl]; rfl) ⟨_, rfl, .inl ⟨rfl, _, SqL.of tT⟩, t, zs, .int 1, rfl, rfl, tT, Nat.lt_of_le_of_lt (by omega : zs.length ≤ 100) (by decide), ?_⟩
        rw [upd_upd]
        exact ⟨r, _, _, _, _, _, _, zs, ds, rfl, L4.same (Same.new ht), hz4⟩
    · rintro σ H3 ⟨r, x4, x5, x6, x7, x8, x9, zs, ds, rfl, L, hz⟩
      refine ⟨_, rfl, b, dx, _, rfl, L.box.ins, rfl, b, dx, l, zs, rfl, L.box, fun t ht => ?_⟩
      have L5 := L.same (Same.new (o := .lst zs) ht)
      refine ⟨_, rfl, _, _, .lst (SqL.of upd_same) L5.dat, L5.dRows, L5.shR.ok, L5.shR.ok, ?_⟩
      rw [L5.shR.refl]
      exact q _
end
theorem all_mk {l : PySem.W.OpenLaw} {w : World} {K : PySem.W.Frag} {h : Heap} {mg : Str → Option Value} {fa : Addr} (X : K.In h) (G : h.Ns mainGlobals mg) (hfa : mg "law" = some (.ref fa))
    {C_PageError C_NotValid C_Box f_PageError_init f_is_whole f_is_number_below f_is_tuple_of f_is_pair f_is_letter f_Box_init f_Box_send f_Box_take f_Box_letters f__law_tape f__law_at f__law_letter f__law_told f_law : Addr}
    {od_PageError_init an_PageError_init : Option Addr} {sl_PageError_init : Array (Option Value)} {oc_PageError_init kV_PageError_init dc_PageError_init pm_PageError_init cd_PageError_init ct_PageError_init : Value}
    {od_is_whole an_is_whole : Option Addr} {sl_is_whole : Array (Option Value)} {oc_is_whole kV_is_whole dc_is_whole pm_is_whole cd_is_whole ct_is_whole : Value}
    {od_is_number_below an_is_number_below : Option Addr} {sl_is_number_below : Array (Option Value)} {oc_is_number_below kV_is_number_below dc_is_number_below pm_is_number_below cd_is_number_below ct_is_number_below : Value}
    {od_is_tuple_of an_is_tuple_of : Option Addr} {sl_is_tuple_of : Array (Option Value)} {oc_is_tuple_of kV_is_tuple_of dc_is_tuple_of pm_is_tuple_of cd_is_tuple_of ct_is_tuple_of : Value}
    {od_is_pair an_is_pair : Option Addr} {sl_is_pair : Array (Option Value)} {oc_is_pair kV_is_pair dc_is_pair pm_is_pair cd_is_pair ct_is_pair : Value}
    {od_is_letter an_is_letter : Option Addr} {sl_is_letter : Array (Option Value)} {oc_is_letter kV_is_letter dc_is_letter pm_is_letter cd_is_letter ct_is_letter : Value}
    {od_Box_init an_Box_init : Option Addr} {sl_Box_init : Array (Option Value)} {oc_Box_init kV_Box_init dc_Box_init pm_Box_init cd_Box_init ct_Box_init : Value}
    {od_Box_send an_Box_send : Option Addr} {sl_Box_send : Array (Option Value)} {oc_Box_send kV_Box_send dc_Box_send pm_Box_send cd_Box_send ct_Box_send : Value}
    {od_Box_take an_Box_take : Option Addr} {sl_Box_take : Array (Option Value)} {oc_Box_take kV_Box_take dc_Box_take pm_Box_take cd_Box_take ct_Box_take : Value}
    {od_Box_letters an_Box_letters : Option Addr} {sl_Box_letters : Array (Option Value)} {oc_Box_letters kV_Box_letters dc_Box_letters pm_Box_letters cd_Box_letters ct_Box_letters : Value}
    {od__law_tape an__law_tape : Option Addr} {sl__law_tape : Array (Option Value)} {oc__law_tape kV__law_tape dc__law_tape pm__law_tape cd__law_tape ct__law_tape : Value}
    {od__law_at an__law_at : Option Addr} {sl__law_at : Array (Option Value)} {oc__law_at kV__law_at dc__law_at pm__law_at cd__law_at ct__law_at : Value}
    {od__law_letter an__law_letter : Option Addr} {sl__law_letter : Array (Option Value)} {oc__law_letter kV__law_letter dc__law_letter pm__law_letter cd__law_letter ct__law_letter : Value}
    {od__law_told an__law_told : Option Addr} {sl__law_told : Array (Option Value)} {oc__law_told kV__law_told dc__law_told pm__law_told cd__law_told ct__law_told : Value}
    {od_law an_law : Option Addr} {sl_law : Array (Option Value)} {oc_law kV_law dc_law pm_law cd_law ct_law : Value}
    {t_SPACES : Tok}
    {t_PAGES : Tok}
    {nmX qX : Str} {NX : Addr} {bsX : List Value} {snX : List Str} {subX : List Value} {abX : Bool} {colX : Option Bool} {ddX : Option Addr} {x0 x1 x2 x3 x5 : Option Value}
    (g_PageError : PySem.W.nsIn K mainGlobals "PageError" = some (some (.ref C_PageError)))
    (g_NotValid : PySem.W.nsIn K mainGlobals "NotValid" = some (some (.ref C_NotValid)))
    (g_Box : PySem.W.nsIn K mainGlobals "Box" = some (some (.ref C_Box)))
    (a_PageError_init : PySem.W.findIn K (.ref C_PageError) "__init__" = some (some (.ref f_PageError_init)))
    (i_PageError_init : PySem.W.isFn K (.ref f_PageError_init) = true)
    (l_PageError_init : K.lookup f_PageError_init = some ⟨oc_PageError_init, od_PageError_init, .func (PySem.W.fnOf "__init__" "PageError.__init__" (defArgs s_PageError_init) (defBody s_PageError_init) (defScope s_PageError_init) .none kV_PageError_init dc_PageError_init pm_PageError_init an_PageError_init cd_PageError_init ct_PageError_init), sl_PageError_init⟩)
    (c_PageError_init : PySem.W.codeIn K cd_PageError_init "PageError.__init__" = true)
    (k_PageError_init : PySem.W.keepIn K (.ref f_PageError_init) = true)
    (a_is_whole : PySem.W.nsIn K mainGlobals "is_whole" = some (some (.ref f_is_whole)))
    (l_is_whole : K.lookup f_is_whole = some ⟨oc_is_whole, od_is_whole, .func (PySem.W.fnOf "is_whole" "is_whole" (defArgs s_is_whole) (defBody s_is_whole) (defScope s_is_whole) .none kV_is_whole dc_is_whole pm_is_whole an_is_whole cd_is_whole ct_is_whole), sl_is_whole⟩)
    (c_is_whole : PySem.W.codeIn K cd_is_whole "is_whole" = true)
    (k_is_whole : PySem.W.keepIn K (.ref f_is_whole) = true)
    (a_is_number_below : PySem.W.nsIn K mainGlobals "is_number_below" = some (some (.ref f_is_number_below)))
    (l_is_number_below : K.lookup f_is_number_below = some ⟨oc_is_number_below, od_is_number_below, .func (PySem.W.fnOf "is_number_below" "is_number_below" (defArgs s_is_number_below) (defBody s_is_number_below) (defScope s_is_number_below) .none kV_is_number_below dc_is_number_below pm_is_number_below an_is_number_below cd_is_number_below ct_is_number_below), sl_is_number_below⟩)
    (c_is_number_below : PySem.W.codeIn K cd_is_number_below "is_number_below" = true)
    (k_is_number_below : PySem.W.keepIn K (.ref f_is_number_below) = true)
    (a_is_tuple_of : PySem.W.nsIn K mainGlobals "is_tuple_of" = some (some (.ref f_is_tuple_of)))
    (l_is_tuple_of : K.lookup f_is_tuple_of = some ⟨oc_is_tuple_of, od_is_tuple_of, .func (PySem.W.fnOf "is_tuple_of" "is_tuple_of" (defArgs s_is_tuple_of) (defBody s_is_tuple_of) (defScope s_is_tuple_of) .none kV_is_tuple_of dc_is_tuple_of pm_is_tuple_of an_is_tuple_of cd_is_tuple_of ct_is_tuple_of), sl_is_tuple_of⟩)
    (c_is_tuple_of : PySem.W.codeIn K cd_is_tuple_of "is_tuple_of" = true)
    (k_is_tuple_of : PySem.W.keepIn K (.ref f_is_tuple_of) = true)
    (a_is_pair : PySem.W.nsIn K mainGlobals "is_pair" = some (some (.ref f_is_pair)))
    (l_is_pair : K.lookup f_is_pair = some ⟨oc_is_pair, od_is_pair, .func (PySem.W.fnOf "is_pair" "is_pair" (defArgs s_is_pair) (defBody s_is_pair) (defScope s_is_pair) .none kV_is_pair dc_is_pair pm_is_pair an_is_pair cd_is_pair ct_is_pair), sl_is_pair⟩)
    (c_is_pair : PySem.W.codeIn K cd_is_pair "is_pair" = true)
    (k_is_pair : PySem.W.keepIn K (.ref f_is_pair) = true)
    (a_is_letter : PySem.W.nsIn K mainGlobals "is_letter" = some (some (.ref f_is_letter)))
    (l_is_letter : K.lookup f_is_letter = some ⟨oc_is_letter, od_is_letter, .func (PySem.W.fnOf "is_letter" "is_letter" (defArgs s_is_letter) (defBody s_is_letter) (defScope s_is_letter) .none kV_is_letter dc_is_letter pm_is_letter an_is_letter cd_is_letter ct_is_letter), sl_is_letter⟩)
    (c_is_letter : PySem.W.codeIn K cd_is_letter "is_letter" = true)
    (k_is_letter : PySem.W.keepIn K (.ref f_is_letter) = true)
    (a_Box_init : PySem.W.findIn K (.ref C_Box) "__init__" = some (some (.ref f_Box_init)))
    (i_Box_init : PySem.W.isFn K (.ref f_Box_init) = true)
    (l_Box_init : K.lookup f_Box_init = some ⟨oc_Box_init, od_Box_init, .func (PySem.W.fnOf "__init__" "Box.__init__" (defArgs s_Box_init) (defBody s_Box_init) (defScope s_Box_init) .none kV_Box_init dc_Box_init pm_Box_init an_Box_init cd_Box_init ct_Box_init), sl_Box_init⟩)
    (c_Box_init : PySem.W.codeIn K cd_Box_init "Box.__init__" = true)
    (k_Box_init : PySem.W.keepIn K (.ref f_Box_init) = true)
    (a_Box_send : PySem.W.findIn K (.ref C_Box) "send" = some (some (.ref f_Box_send)))
    (i_Box_send : PySem.W.isFn K (.ref f_Box_send) = true)
    (l_Box_send : K.lookup f_Box_send = some ⟨oc_Box_send, od_Box_send, .func (PySem.W.fnOf "send" "Box.send" (defArgs s_Box_send) (defBody s_Box_send) (defScope s_Box_send) .none kV_Box_send dc_Box_send pm_Box_send an_Box_send cd_Box_send ct_Box_send), sl_Box_send⟩)
    (c_Box_send : PySem.W.codeIn K cd_Box_send "Box.send" = true)
    (k_Box_send : PySem.W.keepIn K (.ref f_Box_send) = true)
    (a_Box_take : PySem.W.findIn K (.ref C_Box) "take" = some (some (.ref f_Box_take)))
    (i_Box_take : PySem.W.isFn K (.ref f_Box_take) = true)
    (l_Box_take : K.lookup f_Box_take = some ⟨oc_Box_take, od_Box_take, .func (PySem.W.fnOf "take" "Box.take" (defArgs s_Box_take) (defBody s_Box_take) (defScope s_Box_take) .none kV_Box_take dc_Box_take pm_Box_take an_Box_take cd_Box_take ct_Box_take), sl_Box_take⟩)
    (c_Box_take : PySem.W.codeIn K cd_Box_take "Box.take" = true)
    (k_Box_take : PySem.W.keepIn K (.ref f_Box_take) = true)
    (a_Box_letters : PySem.W.findIn K (.ref C_Box) "letters" = some (some (.ref f_Box_letters)))
    (i_Box_letters : PySem.W.isFn K (.ref f_Box_letters) = true)
    (l_Box_letters : K.lookup f_Box_letters = some ⟨oc_Box_letters, od_Box_letters, .func (PySem.W.fnOf "letters" "Box.letters" (defArgs s_Box_letters) (defBody s_Box_letters) (defScope s_Box_letters) .none kV_Box_letters dc_Box_letters pm_Box_letters an_Box_letters cd_Box_letters ct_Box_letters), sl_Box_letters⟩)
    (c_Box_letters : PySem.W.codeIn K cd_Box_letters "Box.letters" = true)
    (k_Box_letters : PySem.W.keepIn K (.ref f_Box_letters) = true)
    (a__law_tape : PySem.W.nsIn K mainGlobals "_law_tape" = some (some (.ref f__law_tape)))
    (l__law_tape : K.lookup f__law_tape = some ⟨oc__law_tape, od__law_tape, .func (PySem.W.fnOf "_law_tape" "_law_tape" (defArgs s__law_tape) (defBody s__law_tape) (defScope s__law_tape) .none kV__law_tape dc__law_tape pm__law_tape an__law_tape cd__law_tape ct__law_tape), sl__law_tape⟩)
    (c__law_tape : PySem.W.codeIn K cd__law_tape "_law_tape" = true)
    (k__law_tape : PySem.W.keepIn K (.ref f__law_tape) = true)
    (a__law_at : PySem.W.nsIn K mainGlobals "_law_at" = some (some (.ref f__law_at)))
    (l__law_at : K.lookup f__law_at = some ⟨oc__law_at, od__law_at, .func (PySem.W.fnOf "_law_at" "_law_at" (defArgs s__law_at) (defBody s__law_at) (defScope s__law_at) .none kV__law_at dc__law_at pm__law_at an__law_at cd__law_at ct__law_at), sl__law_at⟩)
    (c__law_at : PySem.W.codeIn K cd__law_at "_law_at" = true)
    (k__law_at : PySem.W.keepIn K (.ref f__law_at) = true)
    (a__law_letter : PySem.W.nsIn K mainGlobals "_law_letter" = some (some (.ref f__law_letter)))
    (l__law_letter : K.lookup f__law_letter = some ⟨oc__law_letter, od__law_letter, .func (PySem.W.fnOf "_law_letter" "_law_letter" (defArgs s__law_letter) (defBody s__law_letter) (defScope s__law_letter) .none kV__law_letter dc__law_letter pm__law_letter an__law_letter cd__law_letter ct__law_letter), sl__law_letter⟩)
    (c__law_letter : PySem.W.codeIn K cd__law_letter "_law_letter" = true)
    (k__law_letter : PySem.W.keepIn K (.ref f__law_letter) = true)
    (a__law_told : PySem.W.nsIn K mainGlobals "_law_told" = some (some (.ref f__law_told)))
    (l__law_told : K.lookup f__law_told = some ⟨oc__law_told, od__law_told, .func (PySem.W.fnOf "_law_told" "_law_told" (defArgs s__law_told) (defBody s__law_told) (defScope s__law_told) .none kV__law_told dc__law_told pm__law_told an__law_told cd__law_told ct__law_told), sl__law_told⟩)
    (c__law_told : PySem.W.codeIn K cd__law_told "_law_told" = true)
    (k__law_told : PySem.W.keepIn K (.ref f__law_told) = true)
    (a_law : PySem.W.nsIn K mainGlobals "law" = some (some (.ref f_law)))
    (l_law : K.lookup f_law = some ⟨oc_law, od_law, .func (PySem.W.fnOf "law" "law" (defArgs s_law) (defBody s_law) (defScope s_law) .none kV_law dc_law pm_law an_law cd_law ct_law), sl_law⟩)
    (c_law : PySem.W.codeIn K cd_law "law" = true)
    (k_law : PySem.W.keepIn K (.ref f_law) = true)
    (pg_Box : PySem.W.plainGet K C_Box Str.empty = true)
    (hd_Box : PySem.W.hasDictIn K C_Box = true)
    (po_Box : PySem.W.plainOver K C_Box = true)
    (sa_Box : PySem.W.findIn K (.ref C_Box) "__setattr__" = some (some (.builtin "object.__setattr__")))
    (mk_Box : PySem.W.makesIn K C_Box = true)
    (kc_Box : PySem.W.keepIn K (.ref C_Box) = true)
    (n_Box__letters : PySem.W.findIn K (.ref C_Box) "_letters" = some none)
    (z_SPACES : PySem.W.nsIn K mainGlobals "SPACES" = some (some (.int 4 t_SPACES)))
    (z_PAGES : PySem.W.nsIn K mainGlobals "PAGES" = some (some (.int 8 t_PAGES)))
    (z_ValueError : PySem.W.nsIn K mainGlobals "ValueError" = some none)
    (z_isinstance : PySem.W.nsIn K mainGlobals "isinstance" = some none)
    (z_int : PySem.W.nsIn K mainGlobals "int" = some none)
    (z_bool : PySem.W.nsIn K mainGlobals "bool" = some none)
    (z_tuple : PySem.W.nsIn K mainGlobals "tuple" = some none)
    (z_list : PySem.W.nsIn K mainGlobals "list" = some none)
    (z_len : PySem.W.nsIn K mainGlobals "len" = some none)
    (z_all : PySem.W.nsIn K mainGlobals "all" = some none)
    (z_range : PySem.W.nsIn K mainGlobals "range" = some none)
    (z_abs : PySem.W.nsIn K mainGlobals "abs" = some none)
    (z_min : PySem.W.nsIn K mainGlobals "min" = some none)
    (y_xL : K.lookup C_NotValid = some (excClassObj nmX qX C_NotValid NX bsX [.ref C_PageError, .type "ValueError", .type "Exception", .type "BaseException", .type "object"] true snX subX abX colX ddX x0 x1 x2 x3 x5 "ValueError.__new__"))
    (y_vV : PySem.W.findCls K (.type "ValueError") (.type "type") "__init__" = some (.val (.builtin "ValueError.__init__")))
    (y_xi_NotValid : PySem.W.findIn K (.ref C_NotValid) "__init__" = some (some (.ref f_PageError_init)))
    (y_xt_NotValid : PySem.W.typeIn K (.ref f_PageError_init) = some (.type "function"))
    (y_xs_NotValid : PySem.W.findIn K (.ref C_NotValid) "__setattr__" = some (some (.builtin "object.__setattr__")))
    (y_xb_NotValid : PySem.W.subIn K (.ref C_NotValid) (.type "BaseException") = some true)
    (y_xy_NotValid : PySem.W.typeIn K (.ref C_NotValid) = some (.type "type"))
    (y_xk_NotValid : PySem.W.keepIn K (.ref C_NotValid) = true)
    (y_e1 : PySem.W.findIn K (.ref C_NotValid) "__getattribute__" = some (some (.builtin "BaseException.__getattribute__")))
    (y_e2 : PySem.W.findIn K (.ref C_NotValid) "__getattr__" = some none)
    (y_e4 : PySem.W.hasDictIn K C_NotValid = true)
    (y_e5 : PySem.W.findIn K (.ref C_NotValid) "__class__" = some (some (.builtin "object.__class__")))
    (y_e6 : PySem.W.specialIn K (.builtin "object.__class__") "__get__" = some (some (.builtin "getset_descriptor.__get__")))
    (y_e7 : PySem.W.takesIn K (.builtin "object.__class__") = some true)
    (y_e8 : PySem.W.mroIn K C_NotValid (.type "object") = some true)
    (y_p1 : PySem.W.subIn K (.ref C_PageError) (.type "BaseException") = some true)
    (y_p2 : PySem.W.hasDictIn K C_PageError = true)
    (y_p3 : PySem.W.typeIn K (.ref C_PageError) = some (.type "type"))
    (y_p4 : PySem.W.subIn K (.ref C_NotValid) (.ref C_PageError) = some true)
    (y_q4 : PySem.W.kitOne K (.ref C_NotValid) (.ref C_NotValid) = some true)
    : ∃ fd : FuncData, (∀ (s : Shared) (v : Value), BindsTo s fd ⟨[v], []⟩ [("script", v)]) ∧ ∀ base : Heap, K.In base → base.Ns mainGlobals mg → FnOk l.prog w K mg base CX0 9 fa fd ["script"] (spLaw K) := by
  have e := hfa.symm.trans (PySem.W.mg_of X G a_law)
  cases e
  have T : Txt K mg ⟨C_PageError, C_NotValid, C_Box, f_PageError_init, f_is_whole, f_is_number_below, f_is_tuple_of, f_is_pair, f_is_letter, f_Box_init, f_Box_send, f_Box_take, f_Box_letters, f__law_tape, f__law_at, f__law_letter, f__law_told, fa, PySem.W.fnOf "__init__" "PageError.__init__" (defArgs s_PageError_init) (defBody s_PageError_init) (defScope s_PageError_init) .none kV_PageError_init dc_PageError_init pm_PageError_init an_PageError_init cd_PageError_init ct_PageError_init, PySem.W.fnOf "is_whole" "is_whole" (defArgs s_is_whole) (defBody s_is_whole) (defScope s_is_whole) .none kV_is_whole dc_is_whole pm_is_whole an_is_whole cd_is_whole ct_is_whole, PySem.W.fnOf "is_number_below" "is_number_below" (defArgs s_is_number_below) (defBody s_is_number_below) (defScope s_is_number_below) .none kV_is_number_below dc_is_number_below pm_is_number_below an_is_number_below cd_is_number_below ct_is_number_below, PySem.W.fnOf "is_tuple_of" "is_tuple_of" (defArgs s_is_tuple_of) (defBody s_is_tuple_of) (defScope s_is_tuple_of) .none kV_is_tuple_of dc_is_tuple_of pm_is_tuple_of an_is_tuple_of cd_is_tuple_of ct_is_tuple_of, PySem.W.fnOf "is_pair" "is_pair" (defArgs s_is_pair) (defBody s_is_pair) (defScope s_is_pair) .none kV_is_pair dc_is_pair pm_is_pair an_is_pair cd_is_pair ct_is_pair, PySem.W.fnOf "is_letter" "is_letter" (defArgs s_is_letter) (defBody s_is_letter) (defScope s_is_letter) .none kV_is_letter dc_is_letter pm_is_letter an_is_letter cd_is_letter ct_is_letter, PySem.W.fnOf "__init__" "Box.__init__" (defArgs s_Box_init) (defBody s_Box_init) (defScope s_Box_init) .none kV_Box_init dc_Box_init pm_Box_init an_Box_init cd_Box_init ct_Box_init, PySem.W.fnOf "send" "Box.send" (defArgs s_Box_send) (defBody s_Box_send) (defScope s_Box_send) .none kV_Box_send dc_Box_send pm_Box_send an_Box_send cd_Box_send ct_Box_send, PySem.W.fnOf "take" "Box.take" (defArgs s_Box_take) (defBody s_Box_take) (defScope s_Box_take) .none kV_Box_take dc_Box_take pm_Box_take an_Box_take cd_Box_take ct_Box_take, PySem.W.fnOf "letters" "Box.letters" (defArgs s_Box_letters) (defBody s_Box_letters) (defScope s_Box_letters) .none kV_Box_letters dc_Box_letters pm_Box_letters an_Box_letters cd_Box_letters ct_Box_letters, PySem.W.fnOf "_law_tape" "_law_tape" (defArgs s__law_tape) (defBody s__law_tape) (defScope s__law_tape) .none kV__law_tape dc__law_tape pm__law_tape an__law_tape cd__law_tape ct__law_tape, PySem.W.fnOf "_law_at" "_law_at" (defArgs s__law_at) (defBody s__law_at) (defScope s__law_at) .none kV__law_at dc__law_at pm__law_at an__law_at cd__law_at ct__law_at, PySem.W.fnOf "_law_letter" "_law_letter" (defArgs s__law_letter) (defBody s__law_letter) (defScope s__law_letter) .none kV__law_letter dc__law_letter pm__law_letter an__law_letter cd__law_letter ct__law_letter, PySem.W.fnOf "_law_told" "_law_told" (defArgs s__law_told) (defBody s__law_told) (defScope s__law_told) .none kV__law_told dc__law_told pm__law_told an__law_told cd__law_told ct__law_told, PySem.W.fnOf "law" "law" (defArgs s_law) (defBody s_law) (defScope s_law) .none kV_law dc_law pm_law an_law cd_law ct_law⟩ := {
    m_PageError := PySem.W.mg_of X G g_PageError
    m_NotValid := PySem.W.mg_of X G g_NotValid
    m_Box := PySem.W.mg_of X G g_Box
    F_PageError_init := fun_mk (st := s_PageError_init) l_PageError_init c_PageError_init k_PageError_init
    B_PageError_init := (fun_mk (st := s_PageError_init) l_PageError_init c_PageError_init k_PageError_init).binds (ps := ["self"]) fun _ _ _ _ _ _ us hl => match us, hl with | [_], _ => rfl
    F_is_whole := fun_mk (st := s_is_whole) l_is_whole c_is_whole k_is_whole
    B_is_whole := (fun_mk (st := s_is_whole) l_is_whole c_is_whole k_is_whole).binds (ps := ["value"]) fun _ _ _ _ _ _ us hl => match us, hl with | [_], _ => rfl
    m_is_whole := PySem.W.mg_of X G a_is_whole
    F_is_number_below := fun_mk (st := s_is_number_below) l_is_number_below c_is_number_below k_is_number_below
    B_is_number_below := (fun_mk (st := s_is_number_below) l_is_number_below c_is_number_below k_is_number_below).binds (ps := ["value", "many"]) fun _ _ _ _ _ _ us hl => match us, hl with | [_, _], _ => rfl
    m_is_number_below := PySem.W.mg_of X G a_is_number_below
    F_is_tuple_of := fun_mk (st := s_is_tuple_of) l_is_tuple_of c_is_tuple_of k_is_tuple_of
    B_is_tuple_of := (fun_mk (st := s_is_tuple_of) l_is_tuple_of c_is_tuple_of k_is_tuple_of).binds (ps := ["value", "many"]) fun _ _ _ _ _ _ us hl => match us, hl with | [_, _], _ => rfl
    m_is_tuple_of := PySem.W.mg_of X G a_is_tuple_of
    F_is_pair := fun_mk (st := s_is_pair) l_is_pair c_is_pair k_is_pair
    B_is_pair := (fun_mk (st := s_is_pair) l_is_pair c_is_pair k_is_pair).binds (ps := ["value"]) fun _ _ _ _ _ _ us hl => match us, hl with | [_], _ => rfl
    m_is_pair := PySem.W.mg_of X G a_is_pair
    F_is_letter := fun_mk (st := s_is_letter) l_is_letter c_is_letter k_is_letter
    B_is_letter := (fun_mk (st := s_is_letter) l_is_letter c_is_letter k_is_letter).binds (ps := ["value"]) fun _ _ _ _ _ _ us hl => match us, hl with | [_], _ => rfl
    m_is_letter := PySem.W.mg_of X G a_is_letter
    F_Box_init := fun_mk (st := s_Box_init) l_Box_init c_Box_init k_Box_init
    B_Box_init := (fun_mk (st := s_Box_init) l_Box_init c_Box_init k_Box_init).binds (ps := ["self"]) fun _ _ _ _ _ _ us hl => match us, hl with | [_], _ => rfl
    F_Box_send := fun_mk (st := s_Box_send) l_Box_send c_Box_send k_Box_send
    B_Box_send := (fun_mk (st := s_Box_send) l_Box_send c_Box_send k_Box_send).binds (ps := ["self", "letter"]) fun _ _ _ _ _ _ us hl => match us, hl with | [_, _], _ => rfl
    M_Box_send := ⟨a_Box_send, i_Box_send, k_Box_send⟩
    F_Box_take := fun_mk (st := s_Box_take) l_Box_take c_Box_take k_Box_take
    B_Box_take := (fun_mk (st := s_Box_take) l_Box_take c_Box_take k_Box_take).binds (ps := ["self"]) fun _ _ _ _ _ _ us hl => match us, hl with | [_], _ => rfl
    M_Box_take := ⟨a_Box_take, i_Box_take, k_Box_take⟩
    F_Box_letters := fun_mk (st := s_Box_letters) l_Box_letters c_Box_letters k_Box_letters
    B_Box_letters := (fun_mk (st := s_Box_letters) l_Box_letters c_Box_letters k_Box_letters).binds (ps := ["self"]) fun _ _ _ _ _ _ us hl => match us, hl with | [_], _ => rfl
    M_Box_letters := ⟨a_Box_letters, i_Box_letters, k_Box_letters⟩
    F__law_tape := fun_mk (st := s__law_tape) l__law_tape c__law_tape k__law_tape
    B__law_tape := (fun_mk (st := s__law_tape) l__law_tape c__law_tape k__law_tape).binds (ps := ["script"]) fun _ _ _ _ _ _ us hl => match us, hl with | [_], _ => rfl
    m__law_tape := PySem.W.mg_of X G a__law_tape
    F__law_at := fun_mk (st := s__law_at) l__law_at c__law_at k__law_at
    B__law_at := (fun_mk (st := s__law_at) l__law_at c__law_at k__law_at).binds (ps := ["tape", "k"]) fun _ _ _ _ _ _ us hl => match us, hl with | [_, _], _ => rfl
    m__law_at := PySem.W.mg_of X G a__law_at
    F__law_letter := fun_mk (st := s__law_letter) l__law_letter c__law_letter k__law_letter
    B__law_letter := (fun_mk (st := s__law_letter) l__law_letter c__law_letter k__law_letter).binds (ps := ["number", "pick"]) fun _ _ _ _ _ _ us hl => match us, hl with | [_, _], _ => rfl
    m__law_letter := PySem.W.mg_of X G a__law_letter
    F__law_told := fun_mk (st := s__law_told) l__law_told c__law_told k__law_told
    B__law_told := (fun_mk (st := s__law_told) l__law_told c__law_told k__law_told).binds (ps := ["box", "letter"]) fun _ _ _ _ _ _ us hl => match us, hl with | [_, _], _ => rfl
    m__law_told := PySem.W.mg_of X G a__law_told
    F_law := fun_mk (st := s_law) l_law c_law k_law
    B_law := (fun_mk (st := s_law) l_law c_law k_law).binds (ps := ["script"]) fun _ _ _ _ _ _ us hl => match us, hl with | [_], _ => rfl
    m_law := PySem.W.mg_of X G a_law
    c_Box := ⟨pg_Box, hd_Box, po_Box, sa_Box⟩
    mk_Box := ⟨mk_Box, a_Box_init, i_Box_init, kc_Box⟩
    n_Box__letters := n_Box__letters
    k_SPACES := ⟨_, PySem.W.mg_of X G z_SPACES, t_SPACES, rfl⟩
    k_PAGES := ⟨_, PySem.W.mg_of X G z_PAGES, t_PAGES, rfl⟩
    b_ValueError := PySem.W.mg_none_of X G z_ValueError
    b_isinstance := PySem.W.mg_none_of X G z_isinstance
    b_int := PySem.W.mg_none_of X G z_int
    b_bool := PySem.W.mg_none_of X G z_bool
    b_tuple := PySem.W.mg_none_of X G z_tuple
    b_list := PySem.W.mg_none_of X G z_list
    b_len := PySem.W.mg_none_of X G z_len
    b_all := PySem.W.mg_none_of X G z_all
    b_range := PySem.W.mg_none_of X G z_range
    b_abs := PySem.W.mg_none_of X G z_abs
    b_min := PySem.W.mg_none_of X G z_min
    vV := y_vV
    xi_NotValid := y_xi_NotValid
    xt_NotValid := y_xt_NotValid
    xs_NotValid := y_xs_NotValid
    xb_NotValid := y_xb_NotValid
    xy_NotValid := y_xy_NotValid
    xk_NotValid := y_xk_NotValid
    e1 := y_e1
    e2 := y_e2
    e4 := y_e4
    e5 := y_e5
    e6 := y_e6
    e7 := y_e7
    e8 := y_e8
    p1 := y_p1
    p2 := y_p2
    p3 := y_p3
    p4 := y_p4
    q4 := y_q4
    x_NotValid := ⟨⟨nmX, qX, NX, bsX, _, snX, subX, abX, colX, ddX, x0, x1, x2, x3, x5, y_xL, rfl⟩, y_xs_NotValid, y_xb_NotValid, y_xy_NotValid, y_xk_NotValid⟩
    e_NotValid := ⟨y_e1, y_e2, y_xb_NotValid, y_e4, y_e5, y_e6, y_e7, y_e8⟩
  }
  exact ⟨_, fun s v => .of_eq rfl, fun base _ _ => (ok_law (base := base) (P := l.prog) (w := w) T).mono (by decide)⟩
theorem walk {l : PySem.W.OpenLaw} {q : Program} {loose : List Str} {XP : (Str → Option Value) → Heap → Prop} {YP : World → Heap → Prop} {d : DefRec} {K : Params → PySem.W.Frag} (hn : l.most = some 63) (hdf : d.params.defaults = [])
    (hY : ∀ (w : World) (h : Heap), YP w h → (K w.params).In h)
    (F : ∀ (w : World) (mg : Str → Option Value) (fa : Addr) (h : Heap), (K w.params).In h → h.Ns mainGlobals mg → mg d.name = some (.ref fa) →
      ∃ fd : FuncData, (∀ (s : Shared) (u : Value), BindsTo s fd ⟨[u], []⟩ [("script", u)]) ∧ ∀ base : Heap, (K w.params).In base → base.Ns mainGlobals mg → FnOk l.prog w (K w.params) mg base CX0 9 fa fd ["script"] (spLaw (K w.params))) :
    PySem.W.WalkO q loose XP YP l.row.toRowW d [] (fun f vs => PySem.call f vs) :=
  L2.walk_of (n := 63) (k := 9) (x := "script") (CX := fun _ => CX0) (sp := fun w => spLaw (K w.params)) hn (by decide) hdf ⟨rfl, by decide, by decide⟩ hY F (fun _ _ a ns hl _ hS => ⟨a, ns, rfl, hS, hl, fun _ => rfl⟩) fun _ _ _ _ _ z => z
end K05

open PySem PySem.W PyProof.Rows in
set_option maxRecDepth 100000 in
set_option maxHeartbeats 0 in
theorem PySem.Challenge.cw_frametally_k05_letters_holds : PySem.Challenge.rw_frametally_k05_letters.Holds := by
  w_on; o_law; k_head; (case hw => w_witness2)
  k_fill
  refine K05.walk (l := PySem.Challenge.rw_frametally_k05_letters) rfl rfl (fun w h Y => PySem.W.kIn_of Y) ?F
  case F =>
    intro w mg fa h KX G hmg
    refine' K05.all_mk KX G hmg ?g_PageError ?g_NotValid ?g_Box ?a_PageError_init ?i_PageError_init ?l_PageError_init ?c_PageError_init ?k_PageError_init ?a_is_whole ?l_is_whole ?c_is_whole ?k_is_whole ?a_is_number_below ?l_is_number_below ?c_is_number_below ?k_is_number_below ?a_is_tuple_of ?l_is_tuple_of ?c_is_tuple_of ?k_is_tuple_of ?a_is_pair ?l_is_pair ?c_is_pair ?k_is_pair ?a_is_letter ?l_is_letter ?c_is_letter ?k_is_letter ?a_Box_init ?i_Box_init ?l_Box_init ?c_Box_init ?k_Box_init ?a_Box_send ?i_Box_send ?l_Box_send ?c_Box_send ?k_Box_send ?a_Box_take ?i_Box_take ?l_Box_take ?c_Box_take ?k_Box_take ?a_Box_letters ?i_Box_letters ?l_Box_letters ?c_Box_letters ?k_Box_letters ?a__law_tape ?l__law_tape ?c__law_tape ?k__law_tape ?a__law_at ?l__law_at ?c__law_at ?k__law_at ?a__law_letter ?l__law_letter ?c__law_letter ?k__law_letter ?a__law_told ?l__law_told ?c__law_told ?k__law_told ?a_law ?l_law ?c_law ?k_law ?pg_Box ?hd_Box ?po_Box ?sa_Box ?mk_Box ?kc_Box ?n_Box__letters ?z_SPACES ?z_PAGES ?z_ValueError ?z_isinstance ?z_int ?z_bool ?z_tuple ?z_list ?z_len ?z_all ?z_range ?z_abs ?z_min ?y_xL ?y_vV ?y_xi_NotValid ?y_xt_NotValid ?y_xs_NotValid ?y_xb_NotValid ?y_xy_NotValid ?y_xk_NotValid ?y_e1 ?y_e2 ?y_e4 ?y_e5 ?y_e6 ?y_e7 ?y_e8 ?y_p1 ?y_p2 ?y_p3 ?y_p4 ?y_q4
    (case g_PageError => k_is)
    (case g_NotValid => k_is)
    (case g_Box => k_is)
    (case a_PageError_init => k_is)
    (case i_PageError_init => k_is)
    (case l_PageError_init => k_is)
    (case c_PageError_init => k_is)
    (case k_PageError_init => k_is)
    (case a_is_whole => k_is)
    (case l_is_whole => k_is)
    (case c_is_whole => k_is)
    (case k_is_whole => k_is)
    (case a_is_number_below => k_is)
    (case l_is_number_below => k_is)
    (case c_is_number_below => k_is)
    (case k_is_number_below => k_is)
    (case a_is_tuple_of => k_is)
    (case l_is_tuple_of => k_is)
    (case c_is_tuple_of => k_is)
    (case k_is_tuple_of => k_is)
    (case a_is_pair => k_is)
    (case l_is_pair => k_is)
    (case c_is_pair => k_is)
    (case k_is_pair => k_is)
    (case a_is_letter => k_is)
    (case l_is_letter => k_is)
    (case c_is_letter => k_is)
    (case k_is_letter => k_is)
    (case a_Box_init => k_is)
    (case i_Box_init => k_is)
    (case l_Box_init => k_is)
    (case c_Box_init => k_is)
    (case k_Box_init => k_is)
    (case a_Box_send => k_is)
    (case i_Box_send => k_is)
    (case l_Box_send => k_is)
    (case c_Box_send => k_is)
    (case k_Box_send => k_is)
    (case a_Box_take => k_is)
    (case i_Box_take => k_is)
    (case l_Box_take => k_is)
    (case c_Box_take => k_is)
    (case k_Box_take => k_is)
    (case a_Box_letters => k_is)
    (case i_Box_letters => k_is)
    (case l_Box_letters => k_is)
    (case c_Box_letters => k_is)
    (case k_Box_letters => k_is)
    (case a__law_tape => k_is)
    (case l__law_tape => k_is)
    (case c__law_tape => k_is)
    (case k__law_tape => k_is)
    (case a__law_at => k_is)
    (case l__law_at => k_is)
    (case c__law_at => k_is)
    (case k__law_at => k_is)
    (case a__law_letter => k_is)
    (case l__law_letter => k_is)
    (case c__law_letter => k_is)
    (case k__law_letter => k_is)
    (case a__law_told => k_is)
    (case l__law_told => k_is)
    (case c__law_told => k_is)
    (case k__law_told => k_is)
    (case a_law => k_is)
    (case l_law => k_is)
    (case c_law => k_is)
    (case k_law => k_is)
    (case pg_Box => k_is)
    (case hd_Box => k_is)
    (case po_Box => k_is)
    (case sa_Box => k_is)
    (case mk_Box => k_is)
    (case kc_Box => k_is)
    (case n_Box__letters => k_is)
    (case z_SPACES => k_is)
    (case z_PAGES => k_is)
    (case z_ValueError => k_is)
    (case z_isinstance => k_is)
    (case z_int => k_is)
    (case z_bool => k_is)
    (case z_tuple => k_is)
    (case z_list => k_is)
    (case z_len => k_is)
    (case z_all => k_is)
    (case z_range => k_is)
    (case z_abs => k_is)
    (case z_min => k_is)
    (case y_xL => k_is)
    (case y_vV => k_is)
    (case y_xi_NotValid => k_is)
    (case y_xt_NotValid => k_is)
    (case y_xs_NotValid => k_is)
    (case y_xb_NotValid => k_is)
    (case y_xy_NotValid => k_is)
    (case y_xk_NotValid => k_is)
    (case y_e1 => k_is)
    (case y_e2 => k_is)
    (case y_e4 => k_is)
    (case y_e5 => k_is)
    (case y_e6 => k_is)
    (case y_e7 => k_is)
    (case y_e8 => k_is)
    (case y_p1 => k_is)
    (case y_p2 => k_is)
    (case y_p3 => k_is)
    (case y_p4 => k_is)
    (case y_q4 => first | rfl | k_is)
