import PyProof.Rows.All
import Wide.All
import OpenK.AllK
import Wide.FinOn
import HandS.ForExc
import HandS.Comp
import HandS.IsInst
import HandS.ExcInit
import HandS.ExcIs
import HandS.CallSlots
import HandS.TupAny
import PySem.Challenge.RW_frametally_k03_buffers
set_option Elab.async false
set_option linter.all false
set_option maxRecDepth 100000
set_option maxHeartbeats 4000000
/-! Data that stands in the heap (None, bools, ints, texts, lists, tuples): how it stays, what shape it has, its type. -/
namespace Dk
open PySem PySem.Spec PyProof.Rows L2

theorem Same.tupS {K : PySem.W.Frag} {H H' : Hp} {a : Addr} {xs : List V} (e : Same H H') (h : SqT K H a xs) : SqT K H' a xs := by
  rcases h with (h | ⟨o, h⟩) | h
  · exact .inl (.inl (e _ _ h))
  · exact .inl (.inr ⟨o, e _ _ h⟩)
  · exact .inr h
theorem Same.new {H : Hp} {p : Addr} {o : HO} (h : H p = none) : Same H (upd H p o) := fun b u e => (upd_ne (ne_of_none e h)).trans e
/-- an object that H does not track may be written -/
theorem Same.put {H H' : Hp} {p : Addr} {o : HO} (e : Same H H') (h : H p = none) : Same H (upd H' p o) := fun b u k => (upd_ne (ne_of_none k h)).trans (e b u k)

mutual
theorem dp_mono {K : PySem.W.Frag} {H H' : Hp} (e : Same H H') : ∀ {d : PyData} {v : V}, Dp K H v d → Dp K H' v d
  | .none, _, h => by cases h; exact .non
  | .bool b, _, h => by cases h; exact .bl b
  | .int i, _, h => by cases h; exact .int i
  | .str x, _, h => by cases h; exact .str x
  | .list ds, _, h => by
    cases h with
    | lst s q => exact .lst (e.seq s) (dpAll_mono e q)
  | .tuple ds, _, h => by
    cases h with
    | tup s q => exact .tup (Same.tupS e s) (dpAll_mono e q)
  | .dict _, _, h => by cases h
theorem dpAll_mono {K : PySem.W.Frag} {H H' : Hp} (e : Same H H') : ∀ {ds : List PyData} {vs : List V}, DpAll K H vs ds → DpAll K H' vs ds
  | [], _, h => by cases h; exact .nil
  | d :: ds, _, h => by
    cases h with
    | cons a b => exact .cons (dp_mono e a) (dpAll_mono e b)
end
section
variable {K : PySem.W.Frag} {H : Hp}
theorem dpAll_app : ∀ {xs ys : List V} {ds es : List PyData}, DpAll K H xs ds → DpAll K H ys es → DpAll K H (xs ++ ys) (ds ++ es)
  | _, _, _, _, .nil, q => q
  | _, _, _, _, .cons a b, q => .cons a (dpAll_app b q)
theorem dpAll_len : ∀ {xs : List V} {ds : List PyData}, DpAll K H xs ds → xs.length = ds.length
  | _, _, .nil => rfl
  | _, _, .cons _ b => congrArg (· + 1) (dpAll_len b)
theorem dpAll_drop : ∀ {xs : List V} {ds : List PyData} (n : Nat), DpAll K H xs ds → DpAll K H (xs.drop n) (ds.drop n)
  | _, _, 0, q => q
  | _, _, n + 1, .nil => .nil
  | _, _, n + 1, .cons _ b => dpAll_drop n b
theorem dpAll_get : ∀ {xs : List V} {ds : List PyData} {i : Nat} {v : V}, DpAll K H xs ds → xs[i]? = some v → ∃ d, ds[i]? = some d ∧ Dp K H v d
  | _, _, _, _, .nil, e => by simp at e
  | _, _, 0, _, .cons a _, e => by
    simp at e
    subst e
    exact ⟨_, rfl, a⟩
  | _, _, i + 1, _, .cons _ b, e => by
    obtain ⟨d, h1, h2⟩ := dpAll_get (i := i) b (by simpa using e)
    exact ⟨d, by simpa using h1, h2⟩
theorem dpAll_ints (ns : List Int) : DpAll K H (ns.map V.int) (ns.map PyData.int) := by
  induction ns with
  | nil => exact .nil
  | cons n ns ih => exact .cons (.int n) ih
end

theorem take_snoc {α : Type} : ∀ {l : List α} {i : Nat} {x : α}, l[i]? = some x → l.take (i + 1) = l.take i ++ [x]
  | [], _, _, h => by simp at h
  | y :: l, 0, _, h => by
    simp at h
    subst h
    rfl
  | y :: l, i + 1, _, h => by
    have ih := take_snoc (l := l) (i := i) (by simpa using h)
    rw [List.take_succ_cons, ih, List.take_succ_cons]
    rfl

theorem ifF {c : Bool} {A B : Prop} (h : c = false) (b : B) : if c = true then A else B := by
  rw [h]
  exact iteF b
theorem ifT {c : Bool} {A B : Prop} (h : c = true) (b : A) : if c = true then A else B := by
  rw [h]
  exact iteT b
theorem upd_comm {H : Hp} {a b : Addr} {o u : HO} (h : a ≠ b) : upd (upd H a o) b u = upd (upd H b u) a o := by
  funext c
  by_cases ca : c = a
  · rw [ca, upd_ne h, upd_same, upd_same]
  · by_cases cb : c = b
    · rw [cb, upd_same, upd_ne (Ne.symm h), upd_same]
    · rw [upd_ne cb, upd_ne ca, upd_ne ca, upd_ne cb]
theorem upd_self {H : Hp} {a : Addr} {o : HO} (h : H a = some o) : upd H a o = H := by
  funext c
  by_cases ca : c = a
  · rw [ca, upd_same, h]
  · rw [upd_ne ca]

theorem cut1 (xs : List V) : cutV xs (some 1) none = xs.drop 1 := by
  unfold cutV
  have e1 : HT.sIx xs.length 0 (some 1) = min 1 xs.length := HT.sIx_nat xs.length 0 1
  rw [e1, HT.sIx_none]
  cases xs with
  | nil => rfl
  | cons x xs =>
    rw [show min 1 (x :: xs).length = 1 by simp only [List.length_cons]; omega]
    exact List.take_of_length_le (by rw [List.length_drop]; omega)

/-- a new object beside a list under construction at D -/
theorem new_under {G : Hp} {D p : Addr} {u o : HO} (gD : G D = none) (h : upd G D u p = none) : upd (upd G D u) p o = upd (upd G p o) D u ∧ G p = none ∧ upd G p o D = none := by
  have ne : p ≠ D := fun e => by
    rw [e, upd_same] at h
    cases h
  exact ⟨upd_comm (Ne.symm ne), (upd_ne ne).symm.trans h, (upd_ne (Ne.symm ne)).trans gD⟩

/-! ### tuples stay, whatever is written elsewhere -/
def IsT : HO → Prop
  | .tup _ => True
  | .frz _ u => IsT u
  | _ => False
def KT (H H' : Hp) : Prop := ∀ b o, H b = some o → IsT o → H' b = some o
theorem KT.refl (H : Hp) : KT H H := fun _ _ h _ => h
theorem KT.trans {H H1 H2 : Hp} (a : KT H H1) (b : KT H1 H2) : KT H H2 := fun c o h k => b c o (a c o h k) k
theorem KT.of {H H' : Hp} (e : Same H H') : KT H H' := fun b o h _ => e b o h
theorem KT.put {H : Hp} {a : Addr} {u : HO} (h : ∀ o, H a = some o → ¬ IsT o) : KT H (upd H a u) := fun b o e k => by
  have ne : b ≠ a := fun z => h o (z ▸ e) k
  rw [upd_ne ne]
  exact e
theorem KT.lst {H : Hp} {a : Addr} {xs : List V} {u : HO} (h : H a = some (.lst xs)) : KT H (upd H a u) := KT.put fun o e k => by
  rw [h] at e
  cases e
  exact k
theorem KT.ins {H : Hp} {a C dx : Addr} {fs : List (Str × V)} {u : HO} (h : H a = some (.ins C dx fs)) : KT H (upd H a u) := KT.put fun o e k => by
  rw [h] at e
  cases e
  exact k
theorem KT.new {H : Hp} {a : Addr} {u : HO} (h : H a = none) : KT H (upd H a u) := KT.of (Same.new h)
theorem KT.tupS {K : PySem.W.Frag} {H H' : Hp} {a : Addr} {xs : List V} (e : KT H H') (h : SqT K H a xs) : SqT K H' a xs := by
  rcases h with (h | ⟨o, h⟩) | h
  · exact .inl (.inl (e _ _ h True.intro))
  · exact .inl (.inr ⟨o, e _ _ h True.intro⟩)
  · exact .inr h
mutual
/-- no list, no dict within -/
def noL : PyData → Bool
  | .none => true
  | .bool _ => true
  | .int _ => true
  | .str _ => true
  | .list _ => false
  | .dict _ => false
  | .tuple ds => noLs ds
def noLs : List PyData → Bool
  | [] => true
  | d :: ds => noL d && noLs ds
end
mutual
theorem dp_keep {K : PySem.W.Frag} {H H' : Hp} (e : KT H H') : ∀ {d : PyData} {v : V}, noL d = true → Dp K H v d → Dp K H' v d
  | .none, _, _, h => by cases h; exact .non
  | .bool b, _, _, h => by cases h; exact .bl b
  | .int i, _, _, h => by cases h; exact .int i
  | .str x, _, _, h => by cases h; exact .str x
  | .list ds, _, n, h => by simp [noL] at n
  | .tuple ds, _, n, h => by
    cases h with
    | tup s q => exact .tup (e.tupS s) (dpAll_keep e (by simpa [noL] using n) q)
  | .dict _, _, _, h => by cases h
theorem dpAll_keep {K : PySem.W.Frag} {H H' : Hp} (e : KT H H') : ∀ {ds : List PyData} {vs : List V}, noLs ds = true → DpAll K H vs ds → DpAll K H' vs ds
  | [], _, _, h => by cases h; exact .nil
  | d :: ds, _, n, h => by
    cases h with
    | cons a b =>
      have n2 : noL d = true ∧ noLs ds = true := by simpa [noLs] using n
      exact .cons (dp_keep e n2.1 a) (dpAll_keep e n2.2 b)
end
theorem noLs_of : ∀ {ds : List PyData}, (∀ d ∈ ds, noL d = true) → noLs ds = true
  | [], _ => by simp only [noLs]
  | d :: ds, h => by
    simp only [noLs, h d (List.mem_cons_self ..), noLs_of fun x hx => h x (List.mem_cons_of_mem _ hx), Bool.and_self]
theorem noL_tup {ds : List PyData} (h : ∀ d ∈ ds, noL d = true) : noL (.tuple ds) = true := by
  simp only [noL]
  exact noLs_of h

/-! ### shapes -/
structure Sh (n : Nat) (d : PyData) : Prop where
  lay : d.canLay0 = true
  deep : d.depth ≤ n
theorem Sh.up {n m : Nat} {d : PyData} (h : Sh n d) (k : n ≤ m) : Sh m d := ⟨h.lay, Nat.le_trans h.deep k⟩
theorem sh_none : Sh 0 .none := ⟨by simp only [PyData.canLay0], by simp only [PyData.depth]; omega⟩
theorem sh_int (i : Int) : Sh 0 (.int i) := ⟨by simp only [PyData.canLay0], by simp only [PyData.depth]; omega⟩
theorem sh_bool (b : Bool) : Sh 0 (.bool b) := ⟨by simp only [PyData.canLay0], by simp only [PyData.depth]; omega⟩
theorem sh_all {n : Nat} : ∀ {ds : List PyData}, (∀ d ∈ ds, Sh n d) → PyData.canLayAll0 ds = true ∧ PyData.depthAll ds ≤ n
  | [], _ => ⟨by simp only [PyData.canLayAll0], by simp only [PyData.depthAll]; omega⟩
  | d :: ds, h => by
    have h1 := h d (List.mem_cons_self ..)
    obtain ⟨h2, h3⟩ := sh_all (n := n) (ds := ds) fun x hx => h x (List.mem_cons_of_mem _ hx)
    exact ⟨by simp only [PyData.canLayAll0, h1.lay, h2, Bool.and_self], by simp only [PyData.depthAll]; exact Nat.max_le.mpr ⟨h1.deep, h3⟩⟩
theorem sh_tup {n : Nat} {ds : List PyData} (h : ∀ d ∈ ds, Sh n d) : Sh (n + 1) (.tuple ds) := by
  obtain ⟨h1, h2⟩ := sh_all h
  exact ⟨by simp only [PyData.canLay0]; exact h1, by simp only [PyData.depth]; omega⟩
theorem sh_lst {n : Nat} {ds : List PyData} (h : ∀ d ∈ ds, Sh n d) : Sh (n + 1) (.list ds) := by
  obtain ⟨h1, h2⟩ := sh_all h
  exact ⟨by simp only [PyData.canLay0]; exact h1, by simp only [PyData.depth]; omega⟩
theorem Sh.ok {n : Nat} {d : PyData} (h : Sh n d) (k : n ≤ 64 := by decide) : SeqAt.shaped d = true := by
  unfold SeqAt.shaped
  rw [h.lay, decide_eq_true (Nat.le_trans h.deep k)]
  rfl
theorem Sh.refl {n : Nat} {d : PyData} (h : Sh n d) : PyData.eqv d d = true := SeqAt.eqv_refl d h.lay

/-! ### types -/
def tyN : PyData → String
  | .none => "NoneType"
  | .bool _ => "bool"
  | .int _ => "int"
  | .str _ => "str"
  | .list _ => "list"
  | .tuple _ => "tuple"
  | .dict _ => "dict"
theorem tyx {K : PySem.W.Frag} {H : Hp} {v : V} {d : PyData} (h : Dp K H v d) : TyX K H v (.type (tyN d)) := by
  cases h with
  | non => exact .base .non
  | bl b => exact .base (.bl b)
  | int i => exact .base (.int i)
  | str x => exact .base (.str x)
  | lst s _ =>
    rcases s with (s | ⟨o, s⟩) | s
    · exact .base (.lst s)
    · exact .base (.frz s)
    · obtain ⟨o, _, _, h1, h2, _⟩ := s
      exact .kList h1 h2
  | tup s _ =>
    rcases s with (s | ⟨o, s⟩) | s
    · exact .base (.tup s)
    · exact .fTuple s
    · obtain ⟨o, _, _, h1, h2, _⟩ := s
      exact .kTuple h1 h2

/-! ### isinstance over data -/
def isInt : PyData → Bool
  | .int _ => true
  | .bool _ => true
  | _ => false
def isBool : PyData → Bool
  | .bool _ => true
  | _ => false
def isTup : PyData → Bool
  | .tuple _ => true
  | _ => false
def isLst : PyData → Bool
  | .list _ => true
  | _ => false
def kits (c : String) : List (Option Bool) := ["NoneType", "bool", "int", "str", "list", "tuple", "dict"].map fun t => kitB t c
theorem kits_at {c : String} {b0 b1 b2 b3 b4 b5 b6 : Bool} (h : kits c = [some b0, some b1, some b2, some b3, some b4, some b5, some b6]) (d : PyData) :
    kitB (tyN d) c = some (match d with | .none => b0 | .bool _ => b1 | .int _ => b2 | .str _ => b3 | .list _ => b4 | .tuple _ => b5 | .dict _ => b6) := by
  simp only [kits, List.map_cons, List.map_nil, List.cons.injEq, and_true] at h
  obtain ⟨h0, h1, h2, h3, h4, h5, h6⟩ := h
  cases d
  · exact h0
  · exact h1
  · exact h2
  · exact h3
  · exact h4
  · exact h5
  · exact h6
section
variable {K : PySem.W.Frag}
theorem kit_int (d : PyData) : PySem.W.kitOne K (.type (tyN d)) (.type "int") = some (isInt d) := by
  refine (kit_ty (kits_at (by decide +kernel : kits "int" = [some false, some true, some true, some false, some false, some false, some false]) d)).trans ?_
  cases d <;> rfl
theorem kit_bool (d : PyData) : PySem.W.kitOne K (.type (tyN d)) (.type "bool") = some (isBool d) := by
  refine (kit_ty (kits_at (by decide +kernel : kits "bool" = [some false, some true, some false, some false, some false, some false, some false]) d)).trans ?_
  cases d <;> rfl
theorem kit_tup (d : PyData) : PySem.W.kitOne K (.type (tyN d)) (.type "tuple") = some (isTup d) := by
  refine (kit_ty (kits_at (by decide +kernel : kits "tuple" = [some false, some false, some false, some false, some false, some true, some false]) d)).trans ?_
  cases d <;> rfl
theorem kit_lst (d : PyData) : PySem.W.kitOne K (.type (tyN d)) (.type "list") = some (isLst d) := by
  refine (kit_ty (kits_at (by decide +kernel : kits "list" = [some false, some false, some false, some false, some true, some false, some false]) d)).trans ?_
  cases d <;> rfl
end
end Dk
/-! An own error class over ValueError that is made without an argument and keeps no field: C(), its __init__ walked as a def. -/
namespace Ek
open PySem PySem.Spec PyProof.Rows L2
section
variable {X : Cx} {a C : Addr} {p pos : Pos}

/-- behind C(): the error at a is let go, nothing else of the heap has changed its tracking -/
theorem let_go {pins : List (Addr × Obj)} {σ : L2.St} {H1 H2 : Hp} {u v w2 : Heap} {gA gB : Array GenState} {dA dB : Drawn} {tA tB : Nat} {oA oB : OsState}
    (I1 : Inv X pins σ H1 ⟨u, gA, dA, tA, oA⟩) (ha : u.objs.size ≤ a) (kp : ∀ b o, u.get? b = some o → v.get? b = some o)
    (un : Un (frs X.stack) [] (upd H1 a (exo a C none)) H2 v w2) (ok2 : HOk X.prog X.w H2 w2) (eo : oB = oA) (bare : AllBare gB) (ea : H2 a = some (exo a C none)) :
    ∃ (t0 : Addr) (G : Heap), Inv X pins σ (del H2 a) ⟨G, gB, dB, tB, oB⟩ ∧ (∀ b o, G.get? b = some o → w2.get? b = some o) ∧ G.get? a = none ∧
      w2.get? a = some ({ cls := .ref C, dict := none, data := .fields #[.ref t0, .none, .none, .none, .bool false, .none] } : Obj) := by
  obtain ⟨t0, he⟩ := exo_at ok2 ea
  have hn : H1 a = none := I1.hok.fresh ha
  obtain ⟨G, gIn, gOut⟩ := restrict w2 (fun b => decide (b ≠ a))
  have same : ∀ b, b ≠ a → G.get? b = w2.get? b := fun b hb => gIn b (decide_eq_true hb)
  have gone : G.get? a = none := gOut a (by simp)
  have old : ∀ {b : Addr} {o : Obj}, u.get? b = some o → b ≠ a := fun {b o} z => Nat.ne_of_lt (Nat.lt_of_lt_of_le (Heap.lt_size z) ha)
  have up : ∀ {b : Addr}, b ≠ a → H1 b = none → upd H1 a (exo a C none) b = none := fun {b} hb n => (upd_ne hb).trans n
  have U : Un (frs X.stack) [] H1 (del H2 a) u G :=
    { keep := fun b o z n hf hx => (same b (old z)).trans (un.keep b o (kp b o z) (up (old z) n) hf hx)
      slot := fun b o z n hf hx => by
        obtain ⟨sl, e⟩ := un.slot b o (kp b o z) (up (old z) n) hf hx
        exact ⟨sl, (same b (old z)).trans e⟩
      free := fun b o z n hx => (del_ne (old z)).trans (un.free b o (kp b o z) (up (old z) n) hx)
      there := fun b o z hx => by
        obtain ⟨o2, e⟩ := un.there b o (kp b o z) hx
        exact ⟨o2, (same b (old z)).trans e⟩
      tups := fun b xs z => (del_ne (ne_of_none z hn)).trans (un.tups b xs ((upd_ne (ne_of_none z hn)).trans z))
      frzs := fun b o y z => (del_ne (ne_of_none z hn)).trans (un.frzs b o y ((upd_ne (ne_of_none z hn)).trans z))
      tbls := fun b ps z => by
        obtain ⟨more, e⟩ := un.tbls b ps ((upd_ne (ne_of_none z hn)).trans z)
        exact ⟨more, (del_ne (ne_of_none z hn)).trans e⟩ }
  have noa : ∀ {b c : Addr}, H2 c = some (.own b) → c ≠ a := fun {b c} hc => at_ne ea hc exo_own
  have ok3 : HOk X.prog X.w (del H2 a) G := fun b o z => by
    have hba : b ≠ a := fun e => by
      rw [e, del_same] at z
      cases z
    rw [del_ne hba] at z
    refine (ok2 b o z).stay (fun c y hc q => ?_) (fun c hc => (del_ne (noa hc)).trans hc) (fun c xs hc => (del_ne (at_ne ea hc exo_tup)).trans hc)
    have hca : c ≠ a := by
      rcases hc with hc | hc
      · exact hc ▸ hba
      · exact noa hc
    exact (same c hca).trans q
  refine ⟨t0, G, I1.call' (ch := []) eo U ok3 bare (fun b z => absurd z (by simp)), fun b o z => ?_, gone, he⟩
  by_cases hba : b = a
  · rw [hba, gone] at z
    cases z
  · exact (same b hba).symm.trans z

/-- C(), where __init__ sets nothing -/
def tMk0 (C : Addr) (sp : Sp) : L2.St → Hp → XK → Prop := fun _ H Q => ∀ a, H a = none →
  sp [.ref a] (upd H a (exo a C none)) (fun v H2 => v = .non ∧ H2 a = some (exo a C none) ∧ Q (.ref C) none (del H2 a)) (fun _ _ _ => False)
theorem mk_exc0 {CX : CXT} {x : Str} {C fI : Addr} {k : Nat} {fd : FuncData} {ps : List Str} {sp : Sp} (T : OexC X.K C)
    (iC : PySem.W.findIn X.K (.ref C) "__init__" = some (some (.ref fI))) (tI : PySem.W.typeIn X.K (.ref fI) = some (.type "function"))
    (F1 : FnOk X.prog X.w X.K X.mg X.base CX k fI fd ps sp) (hr : Room (k + 1) X.A) (hb : Binds X.K fd ps []) (hx : Passes CX X (fun _ _ _ => False))
    (hg : Gl X x) (hm : X.mg x = some (.ref C)) (hdb : (x == ("__debug__" : Str)) = false := by decide) :
    PMk X (.Call (.Name x p) [] [] pos) (tMk0 C sp) := by
  intro pins s σ H Q I h
  obtain ⟨nm, q, N, bs, bm, sn, sub, ab, col, dd, k0, k1, k2, k3, k5, hC, hbm⟩ := T.cls
  refine wpAny_Call_Name_kw (ld_glob I hg hm ?_ hdb)
  refine PySem.W.callWith_K0 I.kIn T.kC ?_
  show wpAny _ _ (call (.ref C) []) _ _ _
  obtain ⟨hp, g, dr, tk, os⟩ := s
  have hsz : hp.objs.size ≤ hp.objs.size + 1 := Nat.le_succ _
  have hn : H (hp.objs.size + 1) = none := I.hok.fresh hsz
  have want := h (hp.objs.size + 1) hn
  have keep2 : ∀ b o, hp.get? b = some o → ((hp.push (PySem.W.kdv_tup [])).push (PySem.HandSPX.excO C hp.objs.size)).get? b = some o :=
    fun b o e => Heap.get?_push_of_some _ (Heap.get?_push_of_some _ e)
  have atE : ((hp.push (PySem.W.kdv_tup [])).push (PySem.HandSPX.excO C hp.objs.size)).get? (hp.objs.size + 1) = some (PySem.HandSPX.excO C hp.objs.size) := by heap_get
  have I2 : Inv X pins σ (upd H (hp.objs.size + 1) (exo (hp.objs.size + 1) C none)) ⟨(hp.push (PySem.W.kdv_tup [])).push (PySem.HandSPX.excO C hp.objs.size), g, dr, tk, os⟩ :=
    I.laid (t' := tk) (a := hp.objs.size + 1) (o := exo (hp.objs.size + 1) C none) (h' := (hp.push (PySem.W.kdv_tup [])).push (PySem.HandSPX.excO C hp.objs.size)) keep2 hsz (exo_ok atE)
  have r2 : Vals [V.ref (hp.objs.size + 1)] [Value.ref (hp.objs.size + 1)] := .cons rfl .nil
  have len1 : ([Value.ref (hp.objs.size + 1)] : List Value).length = ps.length := by
    have e := r2.length
    rw [F1.len _ _ _ _ want] at e
    exact e.symm
  refine wpAny_call (PySem.HandSPX.call_own (rest := []) F.excBase_ValueError (fun Y => PySem.HandSPX.refsVE_contains Y bm hbm) (I.kIn _ _ hC) (PySem.W.looks_findIn I.kIn iC)
    (fun self => PySem.W.bind_fn I.kIn self tI) (Nat.zero_le _) (codeAny_mono (F1.run _ X.stack _ _ ⟨[Value.ref (hp.objs.size + 1)], []⟩ [Value.ref (hp.objs.size + 1)] _ _ (fun _ _ _ => False)
      (hr.make C [] []) (I2.env0.make C [] []) (hb _ [Value.ref (hp.objs.size + 1)] I2.kIn len1) r2 want) fun r s2 back => ?_))
  cases r with
  | error er => exact hx pins σ _ _ er s2 I2 back
  | ok fl =>
    cases fl with
    | ret y =>
      obtain ⟨v, H2, os2, bare2, un2, hok2, rv, ev, ea, wish⟩ := back
      subst ev
      obtain ⟨h2, g2, d2, t2, o2⟩ := s2
      obtain ⟨t0, G, J, kG, gone, there⟩ := let_go (dB := d2) (tB := t2) I hsz keep2 un2 hok2 os2 bare2 ea
      exact ⟨rv, ⟨_, _, _, ⟨G, g2, d2, t2, o2⟩, _, .ref C, none, rfl, J, kG, gone, there, ⟨rfl, rfl⟩, rfl, rfl, del_same, rfl, bare2, raises_own T.exC T.tyC, wish⟩⟩
    | next => exact back.elim
    | brk => exact back.elim
    | cont => exact back.elim
end

section
variable {X : Cx} {CX : CXT} {k : Nat} {f C : Addr} {fd : FuncData} {ps : List Str} {sp : Sp} {E : L2.St → XK} {m : Str} {apos pos : Pos} {e o : Expr} {es : List Expr} {ta : TE} {t : TA}
/-- o.m(e, ..), where what is raised is wished for at the caller's slots -/
def tMethW (C : Addr) (m : Str) (sp : Sp) (E : L2.St → XK) (ta : TE) (t : TA) : TE := fun σ H Q => ta σ H fun x H1 =>
  ∃ a dx fs, x = .ref a ∧ H1 a = some (.ins C dx fs) ∧ fs.lookup m = none ∧ t σ H1 fun vs H2 => sp (x :: vs) H2 Q (E σ)
theorem pe_methW {pl : Sem Bool} (he : PE X o ta) (c : Cls X.K C) (hm : Meth X.K C m f) (F : FnOk X.prog X.w X.K X.mg X.base CX k f fd ps sp) (hr : Room k X.A) (hb : Binds X.K fd ps [])
    (hx : ∀ σ, PassesAt CX X σ (E σ)) (ha : PA X (e :: es) t)
    (hst : starEach (e :: es) X.env = (false, eval e X.env) :: starEach es X.env := by rfl) (hpl : (backTo pos (starEach es X.env)).any (·.1) = false := by rfl)
    (ht : eval (.Call (.Attribute o m apos) (e :: es) [] pos) X.env = (do
      let ov ← eval o X.env
      standAt apos.atName
      let fr ← holding [ov] (getMethod ov m pl)
      callWith pos fr.1 fr.2 (backTo pos (starEach (e :: es) X.env)) (backToKw pos (keywordEach [] X.env))) := by rfl) :
    PE X (.Call (.Attribute o m apos) (e :: es) [] pos) (tMethW C m sp E ta t) := by
  refine ⟨fun pins s σ H Q I h => ?_⟩
  refine PySem.W.methodCall_KW (pl := pl) (thn (he.run pins s σ H _ I h) fun u s1 ⟨x, H1, I1, rx, a, dx, fs, ex, ea, l, q⟩ => ?_) ht
  subst ex
  obtain rfl : u = Value.ref a := rx
  refine getmeth_ok I1 ea c hm l ?_
  refine PySem.W.callWith_K (first := [.ref a]) (h₀ := X.base) I.ok.mod.kin hm.kp (thn (ha.run pos pins s1 σ H1 _ I1 q) fun us s2 ⟨vs, H2, I2, r, q2⟩ => ⟨I2.kIn, ?_⟩) hst hpl
  exact run_fnS (us := .ref a :: us) (vs := .ref a :: vs) F hr hb (hx σ) I2 (.cons rfl r) q2
end

theorem hu65 {k : Nat} {A : Around} (hr : Room k A) : A.units + 65 < cLine := by
  have := hr.un
  omega
/-- a module's constant -/
theorem pe_con {X : Cx} {x : Str} {pos : Pos} {v : V} (hg : Gl X x) (h : ∃ u, X.mg x = some u ∧ RelV v u) (hdb : (x == ("__debug__" : Str)) = false := by decide) : PE X (.Name x pos) (tC v) := by
  obtain ⟨u, h1, h2⟩ := h
  exact pe_glob hg h1 h2 hdb
/-- a statement and what follows it, joined by a word of one's own: what follows is read once, whatever way led there -/
def tMid (t u : TS) : TS := fun D σ H => ∃ M : L2.St → Hp → Prop, t { D with nx := M } σ H ∧ ∀ σ2 H2, M σ2 H2 → u D σ2 H2
theorem pss_mid {X : Cx} {st : Stmt} {more : List Stmt} {t u : TS} (hs : PS X st t) (hm : PSs X more u) : PSs X (st :: more) (tMid t u) := ⟨fun pins s σ H D I ⟨M, hM, hu⟩ =>
  wpAny_execs_cons (thn (hs.run pins s σ H { D with nx := M } I hM) fun f s2 back => by
    cases f with
    | next =>
      obtain ⟨σ2, H2, I2, y⟩ := back
      exact hm.run pins s2 σ2 H2 D I2 (hu σ2 H2 y)
    | ret v => exact back
    | brk => exact back
    | cont => exact back)⟩
/-- a block that is walked under a condition which its reading brings -/
theorem pss_under {X : Cx} {sts : List Stmt} {P : Prop} {t : TS} (h : P → PSs X sts t) : PSs X sts (fun D σ H => P ∧ t D σ H) :=
  ⟨fun pins s σ H D I q => (h q.1).run pins s σ H D I q.2⟩
end Ek
/-! Buffers' entries: tuples (space, page, frame, writable) in the heap; pairs; x not in a list or tuple of data; table words. -/
namespace Nk
open PySem PySem.Spec PyProof.Rows L2 Dk

/-- all but the object at b is as it was -/
def SameBut (b : Addr) (H H' : Hp) : Prop := ∀ x o, x ≠ b → H x = some o → H' x = some o
theorem Same.but {b : Addr} {H H' : Hp} (e : Same H H') : SameBut b H H' := fun x o _ h => e x o h
theorem SameBut.trans {b : Addr} {H H1 H2 : Hp} (e : SameBut b H H1) (f : SameBut b H1 H2) : SameBut b H H2 := fun x o n h => f x o n (e x o n h)
theorem SameBut.put {b p : Addr} {H H' : Hp} {o : HO} (e : SameBut b H H') (h : H p = none) : SameBut b H (upd H' p o) := fun x u n k => (upd_ne (ne_of_none k h)).trans (e x u n k)
theorem SameBut.own {b : Addr} {H H' : Hp} {o : HO} (e : SameBut b H H') : SameBut b H (upd H' b o) := fun x u n k => (upd_ne n).trans (e x u n k)
/-- tuples stay where the object at b is none -/
theorem SameBut.kt {b C dx : Addr} {fs : List (Str × V)} {H H' : Hp} (e : SameBut b H H') (h : H b = some (.ins C dx fs)) : KT H H' := fun x o k t => e x o (fun z => by
  rw [z, h] at k
  cases k
  exact t) k

structure En where
  (s p f : Int)
  w : Bool
def eV (e : En) : List V := [.int e.s, .int e.p, .int e.f, .bl e.w]
def eD (e : En) : PyData := .tuple [.int e.s, .int e.p, .int e.f, .bool e.w]
def aV (z : Addr × En) : V := .ref z.1
def EnAll (H : Hp) (zs : List (Addr × En)) : Prop := ∀ z ∈ zs, H z.1 = some (.tup (eV z.2))
theorem EnAll.kt {H H' : Hp} {zs : List (Addr × En)} (h : EnAll H zs) (e : KT H H') : EnAll H' zs := fun z hz => e _ _ (h z hz) True.intro
theorem EnAll.nil (H : Hp) : EnAll H [] := fun _ h => absurd h List.not_mem_nil
theorem EnAll.app {H : Hp} {zs ys : List (Addr × En)} (h : EnAll H zs) (k : EnAll H ys) : EnAll H (zs ++ ys) := fun z hz => (List.mem_append.mp hz).elim (h z) (k z)
theorem EnAll.one {H : Hp} {t : Addr} {e : En} (h : H t = some (.tup (eV e))) : EnAll H [(t, e)] := fun z hz => by
  rw [List.mem_singleton.mp hz]
  exact h
theorem EnAll.filter {H : Hp} {zs : List (Addr × En)} (h : EnAll H zs) (c : Addr × En → Bool) : EnAll H (zs.filter c) := fun z hz => h z (List.mem_filter.mp hz).1
theorem EnAll.drop {H : Hp} {zs : List (Addr × En)} (h : EnAll H zs) (n : Nat) : EnAll H (zs.drop n) := fun z hz => h z (List.mem_of_mem_drop hz)
theorem EnAll.dp {K : PySem.W.Frag} {H : Hp} : ∀ {zs : List (Addr × En)}, EnAll H zs → DpAll K H (zs.map aV) ((zs.map Prod.snd).map eD)
  | [], _ => .nil
  | z :: zs, h => .cons (.tup (SqT.of (h z (List.mem_cons_self ..))) (.cons (.int _) (.cons (.int _) (.cons (.int _) (.cons (.bl _) .nil))))) (EnAll.dp fun y hy => h y (List.mem_cons_of_mem _ hy))
theorem shE (e : En) : Sh 1 (eD e) := sh_tup fun d hd => by
  simp only [List.mem_cons, List.not_mem_nil, or_false] at hd
  rcases hd with rfl | rfl | rfl | rfl
  · exact sh_int _
  · exact sh_int _
  · exact sh_int _
  · exact sh_bool _
theorem shEs (es : List En) : Sh 2 (.list (es.map eD)) := sh_lst fun d hd => by
  obtain ⟨e, _, rfl⟩ := List.mem_map.mp hd
  exact shE e
theorem map_get {α β : Type} {f : α → β} {l : List α} {i : Nat} {y : β} (h : (l.map f)[i]? = some y) : ∃ x, l[i]? = some x ∧ y = f x := by
  rw [List.getElem?_map] at h
  cases e : l[i]? with
  | none =>
    rw [e] at h
    cases h
  | some x =>
    rw [e] at h
    exact ⟨x, rfl, (Option.some.inj h).symm⟩
theorem mem_of_get {α : Type} {l : List α} {i : Nat} {x : α} (h : l[i]? = some x) : x ∈ l := by
  obtain ⟨hi, e⟩ := List.getElem?_eq_some_iff.mp h
  exact e ▸ List.getElem_mem hi

/-! ### pairs -/
def pD (q : Int × Int) : PyData := .tuple [.int q.1, .int q.2]
theorem eqv_pD (q r : Int × Int) : PyData.eqv (pD q) (pD r) = decide (q = r) := by
  obtain ⟨a, b⟩ := q
  obtain ⟨c, d⟩ := r
  simp only [pD, PyData.eqv, PyData.eqvAll, Bool.and_true, Prod.mk.injEq]
  by_cases h1 : a = c
  · by_cases h2 : b = d
    · simp [h1, h2]
    · simp [h1, h2]
  · simp [h1]
theorem shP (q : Int × Int) : Sh 1 (pD q) := sh_tup fun d hd => by
  simp only [List.mem_cons, List.not_mem_nil, or_false] at hd
  rcases hd with rfl | rfl
  · exact sh_int _
  · exact sh_int _
theorem shPs (ps : List (Int × Int)) : Sh 2 (.list (ps.map pD)) := sh_lst fun d hd => by
  obtain ⟨e, _, rfl⟩ := List.mem_map.mp hd
  exact shP e
def keep (ps : List (Int × Int)) (e : En) : Bool := !ps.any fun q => decide (q = (e.s, e.p))
theorem any_pD (ps : List (Int × Int)) (e : En) : (!(ps.map pD).any fun d => PyData.eqv d (pD (e.s, e.p))) = keep ps e := by
  unfold keep
  rw [List.any_map]
  congr 2
  funext q
  exact eqv_pD q (e.s, e.p)

theorem filter_snd (c : En → Bool) : ∀ zs : List (Addr × En), (zs.filter fun z => c z.2).map Prod.snd = (zs.map Prod.snd).filter c
  | [] => rfl
  | z :: zs => by
    have ih := filter_snd c zs
    rw [List.filter_cons, List.map_cons, List.filter_cons]
    by_cases h : c z.2 = true
    · rw [if_pos h, if_pos h, List.map_cons, ih]
    · rw [if_neg h, if_neg h, ih]

/-! ### x not in y, y a list or a tuple of data -/
def rNiD (K : PySem.W.Frag) : R2 := fun x y H Q => ∃ d ds, Dp K H x d ∧ (Dp K H y (.list ds) ∨ Dp K H y (.tuple ds)) ∧ SeqAt.shaped d = true ∧ SeqAt.shaped (.list ds) = true ∧ Q (.bl (!ds.any fun z => PyData.eqv z d)) H
theorem op_niD {X : Cx} (hu : X.A.units + 65 < cLine) : OpR X (compareOp .NotIn) (rNiD X.K) := by
  intro pins s σ H x y v u Q I rx ry h
  obtain ⟨d, ds, hd, he, sd, se, q⟩ := h
  obtain ⟨as, r1⟩ := Dp.reads I d x v hd rx
  have c1 := SeqAt.canLay_of_shaped se
  have c2 := SeqAt.canLay_of_shaped sd
  have d2 := SeqAt.depth_of_shaped sd
  have room : X.A.units + 1 + min (PyData.depthAll ds) d.depth < cLine := by
    have := Nat.min_le_right (PyData.depthAll ds) d.depth
    omega
  rcases he with he | he
  · obtain ⟨bs, r2⟩ := Dp.reads I (.list ds) y u he ry
    exact SeqAt.notIn_list_reads r2 r1 (by simpa only [PyData.canLay0] using c1) c2 room ⟨.bl _, H, I, rfl, q⟩
  · obtain ⟨bs, r2⟩ := Dp.reads I (.tuple ds) y u he ry
    exact SeqAt.notIn_tuple_reads r2 r1 (by simpa only [PyData.canLay0] using c1) c2 room ⟨.bl _, H, I, rfl, q⟩

/-! ### table words of the law, the buffer's mirror -/
inductive Wd where
  | frame (f : Int) (w : Bool)
  | non
  | swap (n : Int)
  | file
  | held
def Wd.leads : Wd → Bool
  | .frame _ _ => true
  | _ => false
def wD : Wd → PyData
  | .frame f w => .tuple [.str "frame", .int f, .bool w]
  | .non => .none
  | .swap n => .tuple [.str "swap", .int n]
  | .file => .tuple [.str "file", .int 1, .int 2]
  | .held => .tuple [.str "held"]
def last2 (es : List En) : List En := if 2 < es.length then es.drop 1 else es
def putM (s p : Int) (x : Wd) (es : List En) : List En := match x with
  | .frame f w => last2 (es.filter (keep [(s, p)]) ++ [⟨s, p, f, w⟩])
  | _ => es.filter (keep [(s, p)])
theorem cut_last2 (xs : List V) : cutV xs (some (-2)) none = xs.drop (xs.length - 2) := by
  unfold cutV
  have e1 : HT.sIx xs.length 0 (some (-2)) = xs.length - 2 := by
    show (if (-2 : Int) < 0 then ((-2 : Int) + (xs.length : Int)).toNat else min (-2 : Int).toNat xs.length) = _
    rw [if_pos (by decide)]
    omega
  rw [e1, HT.sIx_none]
  refine List.take_of_length_le ?_
  rw [List.length_drop]
  omega
theorem last2_drop (es : List En) (e : En) {n : Nat} (hn : n = es.length + 1 ∧ es.length ≤ 2) : (es ++ [e]).drop (n - 2) = last2 (es ++ [e]) := by
  unfold last2
  rw [List.length_append, List.length_singleton]
  by_cases h : 2 < es.length + 1
  · rw [if_pos h, show n - 2 = 1 by omega]
  · rw [if_neg h, show n - 2 = 0 by omega]
    rfl
def midM (s p : Int) (x : Wd) (es : List En) : List En := match x with
  | .frame f w => es.filter (keep [(s, p)]) ++ [⟨s, p, f, w⟩]
  | _ => es.filter (keep [(s, p)])
theorem last2_mid (s p : Int) (x : Wd) {es : List En} (h : es.length ≤ 2) : last2 (midM s p x es) = putM s p x es := by
  have l : (es.filter (keep [(s, p)])).length ≤ 2 := Nat.le_trans (List.length_filter_le _ _) h
  cases x with
  | frame f w => rfl
  | _ => exact if_neg (by show ¬ 2 < (es.filter (keep [(s, p)])).length; omega)
theorem putM_len (s p : Int) (x : Wd) {es : List En} (h : es.length ≤ 2) : (putM s p x es).length ≤ 2 := by
  have l : (es.filter (keep [(s, p)])).length ≤ 2 := Nat.le_trans (List.length_filter_le _ _) h
  cases x with
  | frame f w =>
    show (last2 _).length ≤ 2
    unfold last2
    split
    · rw [List.length_drop, List.length_append, List.length_singleton]
      omega
    · omega
  | _ => exact l
theorem midM_len (s p : Int) (x : Wd) {es : List En} (h : es.length ≤ 2) : (midM s p x es).length ≤ 3 := by
  have l : (es.filter (keep [(s, p)])).length ≤ 2 := Nat.le_trans (List.length_filter_le _ _) h
  cases x with
  | frame f w =>
    show (_ ++ [_]).length ≤ 3
    rw [List.length_append, List.length_singleton]
    omega
  | _ => exact Nat.le_trans l (by decide)
theorem keep_one (s p : Int) (e : En) : keep [(s, p)] e = !decide ((e.s, e.p) = (s, p)) := by
  unfold keep
  simp only [List.any_cons, List.any_nil, Bool.or_false]
  by_cases h : (s, p) = (e.s, e.p)
  · rw [decide_eq_true h, decide_eq_true h.symm]
  · rw [decide_eq_false h, decide_eq_false (fun z => h z.symm)]
def fits (s p : Int) (wr : Bool) (e : En) : Bool := decide ((e.s, e.p) = (s, p)) && (e.w || !wr)
def frameM (s p : Int) (wr : Bool) (es : List En) : Option Int := (es.find? (fits s p wr)).map (·.f)
def optV : Option Int → V
  | none => .non
  | some i => .int i
theorem find_at {es : List En} {c : En → Bool} : ∀ {i : Nat} {e : En}, es[i]? = some e → (∀ y ∈ es.take i, c y = false) → c e = true → es.find? c = some e := by
  induction es with
  | nil => intro i e h _ _; simp at h
  | cons x es ih =>
    intro i e h hn hc
    cases i with
    | zero =>
      simp at h
      subst h
      simp [hc]
    | succ i =>
      have hx : c x = false := hn x (by simp)
      rw [List.find?_cons, hx]
      exact ih (i := i) (by simpa using h) (fun y hy => hn y (by simp [hy])) hc
theorem find_no {es : List En} {c : En → Bool} (h : ∀ y ∈ es, c y = false) : es.find? c = none := List.find?_eq_none.mpr fun y hy => by simp [h y hy]
end Nk
namespace K03
open PySem L2 Dk Ek Nk
def top (i : Nat) : Stmt := PySem.Challenge.pw_frametally_k03_buffers.main.body.getD i (.Pass ⟨0, 0, 0, 0⟩)
abbrev s_leads_to_frame : Stmt := top 2
abbrev s_Buffer_init : Stmt := inClass (top 3) 0
abbrev s_Buffer_put : Stmt := inClass (top 3) 1
abbrev s_Buffer_frame_for : Stmt := inClass (top 3) 2
abbrev s_Buffer_drop : Stmt := inClass (top 3) 3
abbrev s_Buffer_entries : Stmt := inClass (top 3) 4
abbrev s__law_tape : Stmt := top 5
abbrev s__law_at : Stmt := top 6
abbrev s__law_word : Stmt := top 7
abbrev s__law_put : Stmt := top 8
abbrev s__law_frame : Stmt := top 9
abbrev s_law : Stmt := top 10
theorem sc_leads_to_frame : FnScope ["word"] ["word"] (defScope s_leads_to_frame) := ⟨rfl, rfl, rfl, by decide +kernel, rfl, by decide +kernel, by decide +kernel⟩
theorem sc_Buffer_init : FnScope ["self"] ["self"] (defScope s_Buffer_init) := ⟨rfl, rfl, rfl, by decide +kernel, rfl, by decide +kernel, by decide +kernel⟩
theorem sc_Buffer_put : FnScope ["self", "space", "page", "word"] ["self", "space", "page", "word"] (defScope s_Buffer_put) := ⟨rfl, rfl, rfl, by decide +kernel, rfl, by decide +kernel, by decide +kernel⟩
theorem sc_Buffer_frame_for : FnScope ["self", "space", "page", "writing", "entry_space", "entry_page", "frame", "writable"] ["self", "space", "page", "writing"] (defScope s_Buffer_frame_for) := ⟨rfl, rfl, rfl, by decide +kernel, rfl, by decide +kernel, by decide +kernel⟩
theorem sc_Buffer_drop : FnScope ["self", "pairs", "entry"] ["self", "pairs"] (defScope s_Buffer_drop) := ⟨rfl, rfl, rfl, by decide +kernel, rfl, by decide +kernel, by decide +kernel⟩
theorem sc_Buffer_entries : FnScope ["self"] ["self"] (defScope s_Buffer_entries) := ⟨rfl, rfl, rfl, by decide +kernel, rfl, by decide +kernel, by decide +kernel⟩
theorem sc__law_tape : FnScope ["script", "tape", "k", "value", "step"] ["script"] (defScope s__law_tape) := ⟨rfl, rfl, rfl, by decide +kernel, rfl, by decide +kernel, by decide +kernel⟩
theorem sc__law_at : FnScope ["tape", "k"] ["tape", "k"] (defScope s__law_at) := ⟨rfl, rfl, rfl, by decide +kernel, rfl, by decide +kernel, by decide +kernel⟩
theorem sc__law_word : FnScope ["number", "pick"] ["number", "pick"] (defScope s__law_word) := ⟨rfl, rfl, rfl, by decide +kernel, rfl, by decide +kernel, by decide +kernel⟩
theorem sc__law_put : FnScope ["rows", "space", "page", "word", "row"] ["rows", "space", "page", "word"] (defScope s__law_put) := ⟨rfl, rfl, rfl, by decide +kernel, rfl, by decide +kernel, by decide +kernel⟩
theorem sc__law_frame : FnScope ["rows", "space", "page", "writing", "row"] ["rows", "space", "page", "writing"] (defScope s__law_frame) := ⟨rfl, rfl, rfl, by decide +kernel, rfl, by decide +kernel, by decide +kernel⟩
theorem sc_law : FnScope ["script", "tape", "buffer", "rows", "k", "number", "pick", "space", "page", "word", "pairs", "passed", "told", "writing", "due", "frame", "n", "row"] ["script"] (defScope s_law) := ⟨rfl, rfl, rfl, by decide +kernel, rfl, by decide +kernel, by decide +kernel⟩
structure Ad where
  (C_Buffer f_leads_to_frame f_Buffer_init f_Buffer_put f_Buffer_frame_for f_Buffer_drop f_Buffer_entries f__law_tape f__law_at f__law_word f__law_put f__law_frame f_law : Addr)
  (d_leads_to_frame d_Buffer_init d_Buffer_put d_Buffer_frame_for d_Buffer_drop d_Buffer_entries d__law_tape d__law_at d__law_word d__law_put d__law_frame d_law : FuncData)
structure Txt (K : PySem.W.Frag) (mg : Str → Option Value) (a : Ad) : Prop where
  m_Buffer : mg "Buffer" = some (.ref a.C_Buffer)
  F_leads_to_frame : Fun K "leads_to_frame" "leads_to_frame" s_leads_to_frame a.f_leads_to_frame a.d_leads_to_frame
  B_leads_to_frame : Binds K a.d_leads_to_frame ["word"] []
  m_leads_to_frame : mg "leads_to_frame" = some (.ref a.f_leads_to_frame)
  F_Buffer_init : Fun K "__init__" "Buffer.__init__" s_Buffer_init a.f_Buffer_init a.d_Buffer_init
  B_Buffer_init : Binds K a.d_Buffer_init ["self"] []
  F_Buffer_put : Fun K "put" "Buffer.put" s_Buffer_put a.f_Buffer_put a.d_Buffer_put
  B_Buffer_put : Binds K a.d_Buffer_put ["self", "space", "page", "word"] []
  M_Buffer_put : Meth K a.C_Buffer "put" a.f_Buffer_put
  F_Buffer_frame_for : Fun K "frame_for" "Buffer.frame_for" s_Buffer_frame_for a.f_Buffer_frame_for a.d_Buffer_frame_for
  B_Buffer_frame_for : Binds K a.d_Buffer_frame_for ["self", "space", "page", "writing"] []
  M_Buffer_frame_for : Meth K a.C_Buffer "frame_for" a.f_Buffer_frame_for
  F_Buffer_drop : Fun K "drop" "Buffer.drop" s_Buffer_drop a.f_Buffer_drop a.d_Buffer_drop
  B_Buffer_drop : Binds K a.d_Buffer_drop ["self", "pairs"] []
  M_Buffer_drop : Meth K a.C_Buffer "drop" a.f_Buffer_drop
  F_Buffer_entries : Fun K "entries" "Buffer.entries" s_Buffer_entries a.f_Buffer_entries a.d_Buffer_entries
  B_Buffer_entries : Binds K a.d_Buffer_entries ["self"] []
  M_Buffer_entries : Meth K a.C_Buffer "entries" a.f_Buffer_entries
  F__law_tape : Fun K "_law_tape" "_law_tape" s__law_tape a.f__law_tape a.d__law_tape
  B__law_tape : Binds K a.d__law_tape ["script"] []
  m__law_tape : mg "_law_tape" = some (.ref a.f__law_tape)
  F__law_at : Fun K "_law_at" "_law_at" s__law_at a.f__law_at a.d__law_at
  B__law_at : Binds K a.d__law_at ["tape", "k"] []
  m__law_at : mg "_law_at" = some (.ref a.f__law_at)
  F__law_word : Fun K "_law_word" "_law_word" s__law_word a.f__law_word a.d__law_word
  B__law_word : Binds K a.d__law_word ["number", "pick"] []
  m__law_word : mg "_law_word" = some (.ref a.f__law_word)
  F__law_put : Fun K "_law_put" "_law_put" s__law_put a.f__law_put a.d__law_put
  B__law_put : Binds K a.d__law_put ["rows", "space", "page", "word"] []
  m__law_put : mg "_law_put" = some (.ref a.f__law_put)
  F__law_frame : Fun K "_law_frame" "_law_frame" s__law_frame a.f__law_frame a.d__law_frame
  B__law_frame : Binds K a.d__law_frame ["rows", "space", "page", "writing"] []
  m__law_frame : mg "_law_frame" = some (.ref a.f__law_frame)
  F_law : Fun K "law" "law" s_law a.f_law a.d_law
  B_law : Binds K a.d_law ["script"] []
  m_law : mg "law" = some (.ref a.f_law)
  c_Buffer : Cls K a.C_Buffer
  mk_Buffer : Mk K a.C_Buffer a.f_Buffer_init
  n_Buffer__entries : NoAttr K a.C_Buffer "_entries"
  k_MOST_ENTRIES : ∃ u, mg "MOST_ENTRIES" = some u ∧ RelV (.int 2) u
  b_isinstance : mg "isinstance" = none
  b_int : mg "int" = none
  b_tuple : mg "tuple" = none
  b_list : mg "list" = none
  b_len : mg "len" = none
  b_range : mg "range" = none
  b_abs : mg "abs" = none
  b_min : mg "min" = none
  b_max : mg "max" = none
/-! ### the tape: what it holds does not matter, only that it holds few numbers from 0 to 999 -/
def Dig (ts : List Int) : Prop := ∀ t ∈ ts, 0 ≤ t ∧ t < 1000
theorem Dig.nil : Dig [] := fun _ h => absurd h List.not_mem_nil
theorem Dig.snoc {ts : List Int} {x : Int} (h : Dig ts) (h0 : 0 ≤ x) (h1 : x < 1000) : Dig (ts ++ [x]) := fun t ht => by
  rcases List.mem_append.mp ht with ht | ht
  · exact h t ht
  · rw [List.mem_singleton.mp ht]
    exact ⟨h0, h1⟩
def spTape (K : PySem.W.Frag) : Sp := fun vs H Q _ => ∃ (p : Addr) (ns : List Int), vs = [.ref p] ∧ SqL K H p (ns.map V.int) ∧ ns.length ≤ 63 ∧
  ∀ (H' : Hp) (t : Addr) (ts : List Int), Same H H' → H t = none → H' t = some (.lst (ts.map V.int)) → Dig ts → ts.length ≤ 3780 → Q (.ref t) H'
def spAt (K : PySem.W.Frag) : Sp := fun vs H Q _ => ∃ (t : Addr) (ts : List Int) (k : Int), vs = [.ref t, .int k] ∧ SqL K H t (ts.map V.int) ∧ 0 ≤ k ∧ Dig ts ∧ ∀ x : Int, 0 ≤ x → x < 1000 → Q (.int x) H
section
variable {P : Program} {w : World} {K : PySem.W.Frag} {mg : Str → Option Value} {base : Heap} {a : Ad}
theorem mod1000 (v : Int) : 0 ≤ v % 1000 ∧ v % 1000 < 1000 := ⟨Int.emod_nonneg _ (by decide), Int.emod_lt_of_pos _ (by decide)⟩
theorem snoc_int (ts : List Int) (x : Int) : ts.map V.int ++ [V.int x] = (ts ++ [x]).map V.int := by rw [List.map_append]; rfl
theorem ok__law_tape (T : Txt K mg a) : FnOk P w K mg base CX0 1 a.f__law_tape a.d__law_tape ["script"] (spTape K) := by
  refine T.F__law_tape.ok sc__law_tape (fun vs H Q E h => ?_) (fun cdv A outer s H vs Q E hr h => ?_)
  · obtain ⟨p, ns, rfl, _⟩ := h
    rfl
  · obtain ⟨sp, ns, rfl, hS, hlen, q⟩ := h
    refine ⟨_, (pss_cons (ps_set (i := 1) sc__law_tape.nd rfl (Or.inl rfl) (pe_lst pa_nil))
    (pss_cons (ps_for PassesOwn.never rfl (pi_range1 rfl T.b_range (pa_cons (pe_callB call_len_seq (by rfl) T.b_len (by decide +kernel) (pa_cons (pv 0) pa_nil)) pa_nil)) (pg_name (i := 2) sc__law_tape.nd rfl (Or.inl rfl))
    (pss_cons (ps_set (i := 3) sc__law_tape.nd rfl (Or.inl rfl) (pe_callB call_abs (by rfl) T.b_abs (by decide +kernel) (pa_cons (pe_callTy call_int1 (by rfl) T.b_int (by decide +kernel) (pa_cons (pe_ix ix_list (pv 0) (pv 2) (fun _ _ => rfl)) pa_nil)) pa_nil)))
    (pss_one (ps_if (pt_cmpR (op_ge) (pv 3) (pe_op op_pow pe_int pe_int) (nomark _)) (pss_one (ps_for PassesOwn.never rfl (pi_range1 rfl T.b_range (pa_cons pe_int pa_nil)) (pg_name (i := 4) sc__law_tape.nd rfl (Or.inl rfl))
    (pss_one (ps_if (pt_cmpR (op_gt) (pv 3) pe_int (nomark _)) (pss_cons (ps_expr (pe_bm PySem.F.plainAttrs_list PySem.F.slot_list_append PySem.F.type_list_append mt_append (pv 1) (pa_cons (pe_op op_mod (pv 3) pe_int) pa_nil)))
    (pss_one (ps_set (i := 3) sc__law_tape.nd rfl (Or.inl rfl) (pe_op op_fdiv (pv 3) pe_int)))) pss_nil)))) (pss_one (ps_for PassesOwn.never rfl (pi_range1 rfl T.b_range (pa_cons pe_int pa_nil)) (pg_name (i := 4) sc__law_tape.nd rfl (Or.inl rfl))
    (pss_cons (ps_set (i := 3) sc__law_tape.nd rfl (Or.inl rfl) (pe_op op_mod (pe_op op_add (pe_op op_add (pe_op op_mul (pv 3) pe_int) (pe_op op_mul pe_int (pe_op op_add (pv 2) pe_int))) (pe_op op_mul pe_int (pv 4))) pe_int))
    (pss_cons (ps_set (i := 3) sc__law_tape.nd rfl (Or.inl rfl) (pe_op op_mod (pe_op op_mul (pv 3) pe_int) pe_int))
    (pss_one (ps_expr (pe_bm PySem.F.plainAttrs_list PySem.F.slot_list_append PySem.F.type_list_append mt_append (pv 1) (pa_cons (pe_op op_mod (pe_op op_fdiv (pv 3) pe_int) pe_int) pa_nil))))))))))))
    (pss_one (ps_ret (pv 1))))), ?_⟩
    have len0 : ((List.length (ns.map V.int) : Nat) : Int) ≤ 63 := by rw [List.length_map]; omega
    refine ⟨Nat.zero_le _, fun p hp => ?_⟩
    refine ⟨_, rfl, sp, _, rfl, .inl ((Same.new hp).seq hS), _, rfl, by omega, by omega,
      for_range (lo := 0) (n := ((List.length (ns.map V.int) : Nat) : Int).toNat)
        (fun i σ H' => ∃ (x2 x3 x4 : Option V) (ts : List Int), σ = [some (.ref sp), some (.ref p), x2, x3, x4] ∧ Same H H' ∧ H' p = some (.lst (ts.map V.int)) ∧ Dig ts ∧ ts.length ≤ 60 * i)
        ⟨none, none, none, [], rfl, Same.new hp, upd_same, Dig.nil, Nat.le_refl _⟩ ?_ ?_⟩
    · rintro i σ H' hi ⟨x2, x3, x4, ts, rfl, eS, hL, dg, hl⟩
      rw [List.length_map] at hi
      have hi2 : i < ns.length := by omega
      refine ⟨_, rfl, _, rfl, _, _, _, .int ns[i], rfl, rfl, eS.seq hS, at_of (j := i) (by omega) (by rw [List.getElem?_map, List.getElem?_eq_getElem hi2]; rfl), ?_⟩
      refine .inl ⟨_, rfl, _, rfl, ?_⟩
      refine ⟨_, rfl, _, _, rfl, rfl, ⟨by decide, by decide, by decide⟩, _, _, rfl, rfl, _, rfl, ?_⟩
      refine ite2 (fun c => ?_) (fun c => ?_)
      · refine ⟨60, rfl, by decide, by decide, for_range (lo := 0) (n := (60 : Int).toNat)
          (fun j σ H' => ∃ (v : Int) (x4 : Option V) (ts : List Int), σ = [some (.ref sp), some (.ref p), some (.int (0 + (i : Int))), some (.int v), x4] ∧ Same H H' ∧ H' p = some (.lst (ts.map V.int)) ∧ Dig ts ∧ ts.length ≤ 60 * i + j)
          ⟨_, _, ts, rfl, eS, hL, dg, hl⟩ ?_ ?_⟩
        · rintro j σ H2 hj ⟨v, x4, ts, rfl, eS, hL, dg, hl⟩
          refine ⟨_, rfl, _, _, rfl, rfl, _, rfl, ?_⟩
          have hj2 : j < 60 := hj
          refine ite2 (fun c2 => ?_) (fun c2 => ?_)
          · obtain ⟨m0, m1⟩ := mod1000 v
            refine ⟨_, rfl, .inl ⟨rfl, _, SqL.of hL⟩, _, rfl, _, _, rfl, rfl, (by show (0 : Int) < 1000; decide), p, _, _, rfl, rfl, hL, ?_, ?_⟩
            · rw [List.length_map]
              exact Nat.lt_of_le_of_lt (by omega : ts.length ≤ 4000) (by decide)
            · refine ⟨_, rfl, _, _, rfl, rfl, ⟨by decide, by decide⟩, ?_⟩
              refine ⟨_, _, ts ++ [v % 1000], rfl, Same.put eS hp, ?_, dg.snoc m0 m1, ?_⟩
              · rw [upd_same, snoc_int]
              · rw [List.length_append, List.length_singleton]
                omega
          · exact ⟨v, _, ts, rfl, eS, hL, dg, by omega⟩
        · rintro σ H2 ⟨v, x4, ts, rfl, eS, hL, dg, hl⟩
          exact ⟨_, _, _, ts, rfl, eS, hL, dg, by simp at hl; omega⟩
      · refine ⟨4, rfl, by decide, by decide, for_range (lo := 0) (n := (4 : Int).toNat)
          (fun j σ H' => ∃ (v : Int) (x4 : Option V) (ts : List Int), σ = [some (.ref sp), some (.ref p), some (.int (0 + (i : Int))), some (.int v), x4] ∧ Same H H' ∧ H' p = some (.lst (ts.map V.int)) ∧ Dig ts ∧ ts.length ≤ 60 * i + j)
          ⟨_, _, ts, rfl, eS, hL, dg, hl⟩ ?_ ?_⟩
        · rintro j σ H2 hj ⟨v, x4, ts, rfl, eS, hL, dg, hl⟩
          have hj2 : j < 4 := hj
          refine ⟨_, rfl, _, _, rfl, rfl, .inr ⟨by decide, by decide⟩, _, rfl, _, _, rfl, rfl, _, _, rfl, rfl, .inl ⟨by decide, by decide⟩, _, _, rfl, rfl, _, rfl, _, _, rfl, rfl, .inl ⟨by decide, by decide⟩,
            _, _, rfl, rfl, _, _, rfl, rfl, (by show (0 : Int) < 2147483647; decide), ?_⟩
          refine ⟨_, rfl, _, _, rfl, rfl, .inr ⟨by decide, by decide⟩, _, _, rfl, rfl, (by show (0 : Int) < 2147483647; decide), ?_⟩
          refine ⟨_, rfl, .inl ⟨rfl, _, SqL.of hL⟩, _, rfl, _, _, rfl, rfl, ⟨by decide, by decide⟩, _, _, rfl, rfl, (by show (0 : Int) < 1000; decide), p, _, _, rfl, rfl, hL, ?_, ?_⟩
          · rw [List.length_map]
            exact Nat.lt_of_le_of_lt (by omega : ts.length ≤ 4000) (by decide)
          · refine ⟨_, _, ts ++ [((v * 48271 + 69621 * (0 + (i : Int) + 1) + 7 * (0 + (j : Int))) % 2147483647 * 16807 % 2147483647 / 1000) % 1000], rfl, Same.put eS hp, ?_, dg.snoc (mod1000 _).1 (mod1000 _).2, ?_⟩
            · rw [upd_same, snoc_int]
            · rw [List.length_append, List.length_singleton]
              omega
        · rintro σ H2 ⟨v, x4, ts, rfl, eS, hL, dg, hl⟩
          exact ⟨_, _, _, ts, rfl, eS, hL, dg, by simp at hl; omega⟩
    · rintro σ H' ⟨x2, x3, x4, ts, rfl, eS, hL, dg, hl⟩
      refine ⟨_, rfl, q H' p ts eS hp hL dg ?_⟩
      omega
theorem ok__law_at (T : Txt K mg a) : FnOk P w K mg base CX0 1 a.f__law_at a.d__law_at ["tape", "k"] (spAt K) := by
  refine T.F__law_at.ok sc__law_at (fun vs H Q E h => ?_) (fun cdv A outer s H vs Q E hr h => ?_)
  · obtain ⟨t, ts, k, rfl, _⟩ := h
    rfl
  · obtain ⟨t, ts, k, rfl, hS, hk, dg, q⟩ := h
    refine ⟨_, (pss_cons (ps_if (pt_cmpR (op_lt) (pv 1) (pe_callB call_len_seq (by rfl) T.b_len (by decide +kernel) (pa_cons (pv 0) pa_nil)) (nomark _)) (pss_one (ps_ret (pe_ix ix_list (pv 0) (pv 1) (fun _ _ => rfl)))) pss_nil)
    (pss_one (ps_ret pe_int))), ?_⟩
    refine ⟨_, rfl, _, rfl, t, _, rfl, .inl hS, _, _, rfl, rfl, _, rfl, ?_⟩
    refine ite2 (fun c => ?_) (fun c => ?_)
    · have hk2 : k.toNat < ts.length := by
        rw [List.length_map] at c
        have c2 := of_decide_eq_true c
        omega
      obtain ⟨h0, h1⟩ := dg ts[k.toNat] (List.getElem_mem _)
      refine ⟨_, rfl, _, rfl, t, _, _, .int ts[k.toNat], rfl, rfl, hS, at_of (j := k.toNat) (by omega) (by rw [List.getElem?_map, List.getElem?_eq_getElem hk2]; rfl), q _ h0 h1⟩
    · exact q 0 (by decide) (by decide)
end


/-! ### promises -/
/-- the buffer at b, its list at l -/
structure BufAt (C : Addr) (H : Hp) (b dx l : Addr) (vs : List V) : Prop where
  ins : H b = some (.ins C dx [("_entries", .ref l)])
  lst : H l = some (.lst vs)
def spBufInit (C : Addr) : Sp := fun vs H Q _ => ∃ (x dx : Addr), vs = [.ref x] ∧ H x = some (.ins C dx []) ∧ ∀ H' l, SameBut x H H' → BufAt C H' x dx l [] → Q .non H'
def spEntries (C : Addr) : Sp := fun vs H Q _ => ∃ (b dx l : Addr) (zs : List V), vs = [.ref b] ∧ BufAt C H b dx l zs ∧ ∀ p, H p = none → Q (.ref p) (upd H p (.lst zs))
def spDrop (K : PySem.W.Frag) (C : Addr) : Sp := fun vs H Q _ => ∃ (b dx l : Addr) (zs : List (Addr × En)) (y : V) (ps : List (Int × Int)), vs = [.ref b, y] ∧ BufAt C H b dx l (zs.map aV) ∧ EnAll H zs ∧ zs.length ≤ 1000 ∧
  (Dp K H y (.list (ps.map pD)) ∨ Dp K H y (.tuple (ps.map pD))) ∧ ∀ H' l', SameBut b H H' → H l' = none → BufAt C H' b dx l' ((zs.filter fun z => keep ps z.2).map aV) → Q .non H'
def spLeads (K : PySem.W.Frag) : Sp := fun vs H Q _ => ∃ (y : V) (x : Wd), vs = [y] ∧ Dp K H y (wD x) ∧ Q (.bl x.leads) H
def spPut (K : PySem.W.Frag) (C : Addr) : Sp := fun vs H Q _ => ∃ (b dx l : Addr) (zs : List (Addr × En)) (s p : Int) (y : V) (x : Wd), vs = [.ref b, .int s, .int p, y] ∧ BufAt C H b dx l (zs.map aV) ∧ EnAll H zs ∧ zs.length ≤ 2 ∧
  Dp K H y (wD x) ∧ ∀ H' l' zs', SameBut b H H' → BufAt C H' b dx l' (zs'.map aV) → EnAll H' zs' → zs'.map Prod.snd = putM s p x (zs.map Prod.snd) → Q .non H'
def spFrameFor (C : Addr) : Sp := fun vs H Q _ => ∃ (b dx l : Addr) (zs : List (Addr × En)) (s p : Int) (wr : Bool), vs = [.ref b, .int s, .int p, .bl wr] ∧ BufAt C H b dx l (zs.map aV) ∧ EnAll H zs ∧
  ∀ H', Same H H' → Q (optV (frameM s p wr (zs.map Prod.snd))) H'
section
variable {P : Program} {w : World} {K : PySem.W.Frag} {mg : Str → Option Value} {base : Heap} {a : Ad}
theorem ok_Buffer_init (T : Txt K mg a) : FnOk P w K mg base CX0 1 a.f_Buffer_init a.d_Buffer_init ["self"] (spBufInit a.C_Buffer) := by
  refine T.F_Buffer_init.ok sc_Buffer_init (fun vs H Q E h => ?_) (fun cdv A outer s H vs Q E hr h => ?_)
  · obtain ⟨x, dx, rfl, _⟩ := h
    rfl
  · obtain ⟨x, dx, rfl, hx, q⟩ := h
    refine ⟨_, (pss_one (ps_fld (pv 0) (pe_lst pa_nil) rfl)), ?_⟩
    refine ⟨Nat.zero_le _, fun l hl => ⟨_, rfl, x, a.C_Buffer, dx, [], rfl, (upd_ne (ne_of_none hx hl)).trans hx, T.c_Buffer, T.n_Buffer__entries, (by show 0 < 1000; decide), ?_⟩⟩
    have nlx : l ≠ x := (ne_of_none hx hl).symm
    exact q _ l (fun y o ny hy => (upd_ne ny).trans ((Same.new hl) _ _ hy)) ⟨upd_same, (upd_ne nlx).trans upd_same⟩
theorem ok_Buffer_entries (T : Txt K mg a) : FnOk P w K mg base CX0 1 a.f_Buffer_entries a.d_Buffer_entries ["self"] (spEntries a.C_Buffer) := by
  refine T.F_Buffer_entries.ok sc_Buffer_entries (fun vs H Q E h => ?_) (fun cdv A outer s H vs Q E hr h => ?_)
  · obtain ⟨b, dx, l, zs, rfl, _⟩ := h
    rfl
  · obtain ⟨b, dx, l, zs, rfl, hB, q⟩ := h
    refine ⟨_, (pss_one (ps_ret (pe_callTy call_list_of (by rfl) T.b_list (by decide +kernel) (pa_cons (pe_fld (pv 0) rfl) pa_nil)))), ?_⟩
    exact ⟨_, rfl, b, a.C_Buffer, dx, _, _, rfl, hB.ins, T.c_Buffer, T.n_Buffer__entries, rfl, l, zs, rfl, .inl (SqL.of hB.lst), q⟩
theorem ok_Buffer_drop (T : Txt K mg a) : FnOk P w K mg base CX0 1 a.f_Buffer_drop a.d_Buffer_drop ["self", "pairs"] (spDrop K a.C_Buffer) := by
  refine T.F_Buffer_drop.ok sc_Buffer_drop (fun vs H Q E h => ?_) (fun cdv A outer s H vs Q E hr h => ?_)
  · obtain ⟨b, dx, l, zs, y, ps, rfl, _⟩ := h
    rfl
  · obtain ⟨b, dx, l, zs, y, ps, rfl, hB, hE, lim, hy, q⟩ := h
    refine ⟨_, (pss_one (ps_fld (pv 0) (pe_lc (own := [("entry", 2)]) (g := gName 2) (tt := _) rfl sc_Buffer_drop.nd (pi_list (pe_fld (pv 0) rfl)) (blkOk_by (own := [("entry", 2)]) (N := ["self", "pairs", "entry"]) (sc := defScope s_Buffer_drop) (by decide +kernel)) (fun _ _ _ _ _ => (pg_name (i := 2) sc_Buffer_drop.nd rfl (Or.inl rfl))) (fun _ _ _ _ _ => (pts_one (pt_cmpR ((op_niD (hu65 hr) : OpR _ (compareOp .NotIn) (rNiD K))) (pe_slice (sl_tupA : SlR _ (rSlA K)) (pv 2) po_none (po_some pe_int)) (pv 1) rfl))) (fun _ _ _ _ _ => (pv 2))) rfl)), ?_⟩
    refine ⟨_, rfl, b, a.C_Buffer, dx, _, _, rfl, hB.ins, T.c_Buffer, T.n_Buffer__entries, rfl, l, rfl, ⟨_, SqL.of hB.lst⟩, fun D hD => ?_⟩
    refine lc_list (K := K) (a := l) (xs := zs.map aV) (fun i H' => ∃ G, H' = upd G D (.lst (((zs.take i).filter fun z => keep ps z.2).map aV)) ∧ Same H G ∧ G D = none)
      ⟨H, rfl, Same.refl H, hD⟩ (fun i H' _ ⟨G, e, eS, gD⟩ => by rw [e]; exact SqL.of ((Same.new gD) _ _ (eS _ _ hB.lst))) ?_ ?_
    · rintro i x H' hx ⟨G, rfl, eS, gD⟩
      obtain ⟨z, hz, rfl⟩ := map_get hx
      have hzz := eS _ _ (hE z (mem_of_get hz))
      refine ⟨rfl, _, rfl, 2, rfl, z.1, eV z.2, rfl, SqT.of ((Same.new gD) _ _ hzz), (fun h => absurd h.2 (by show ¬ (2 : Nat) = 4; decide)), fun _ t ht => ?_⟩
      have ntD : t ≠ D := fun e => by rw [e, upd_same] at ht; cases ht
      have gt : G t = none := (upd_ne ntD).symm.trans ht
      have eC : upd (upd G D (.lst (((zs.take i).filter fun z => keep ps z.2).map aV))) t (.tup [.int z.2.s, .int z.2.p]) = upd (upd G t (.tup [.int z.2.s, .int z.2.p])) D (.lst (((zs.take i).filter fun z => keep ps z.2).map aV)) := upd_comm (Ne.symm ntD)
      have eG : Same H (upd G t (.tup [.int z.2.s, .int z.2.p])) := eS.trans (Same.new gt)
      have gD2 : upd G t (.tup [.int z.2.s, .int z.2.p]) D = none := (upd_ne (Ne.symm ntD)).trans gD
      have eA : Same H (upd (upd G t (.tup [.int z.2.s, .int z.2.p])) D (.lst (((zs.take i).filter fun z => keep ps z.2).map aV))) := eG.trans (Same.new gD2)
      refine ⟨_, rfl, pD (z.2.s, z.2.p), ps.map pD, ?_, ?_, (shP _).ok, (shPs ps).ok, _, rfl, ?_⟩
      · exact .tup (SqT.of upd_same) (.cons (.int _) (.cons (.int _) .nil))
      · show Dp K (upd (upd G D _) t (.tup [.int z.2.s, .int z.2.p])) y _ ∨ Dp K (upd (upd G D _) t (.tup [.int z.2.s, .int z.2.p])) y _
        rw [eC]
        exact hy.imp (dp_mono eA) (dp_mono eA)
      · have ek : (!(ps.map pD).any fun d => PyData.eqv d (pD (z.2.s, z.2.p))) = keep ps z.2 := any_pD ps z.2
        refine ite2 (fun c => ?_) (fun c => ?_)
        · refine ⟨_, rfl, _, (upd_ne (Ne.symm ntD)).trans upd_same, ?_, upd G t (.tup [.int z.2.s, .int z.2.p]), ?_, eG, gD2⟩
          · rw [List.length_map]
            refine Nat.lt_of_le_of_lt (Nat.le_trans (List.length_filter_le _ _) (by rw [List.length_take]; exact Nat.le_trans (Nat.min_le_right _ _) lim)) (by decide : 1000 < sizeLine)
          · rw [ek] at c
            show upd (upd (upd G D _) t (.tup [.int z.2.s, .int z.2.p])) D _ = _
            rw [eC, upd_upd, take_snoc hz, List.filter_append, List.map_append, List.filter_cons, if_pos c]
            rfl
        · refine ⟨upd G t (.tup [.int z.2.s, .int z.2.p]), ?_, eG, gD2⟩
          rw [ek] at c
          show upd (upd G D _) t (.tup [.int z.2.s, .int z.2.p]) = _
          rw [eC, take_snoc hz, List.filter_append, List.filter_cons, if_neg c, List.filter_nil, List.append_nil]
    · rintro H' ⟨G, rfl, eS, gD⟩
      rw [List.length_map, List.take_length]
      have nb : b ≠ D := ne_of_none (eS _ _ hB.ins) gD
      refine ⟨_, rfl, b, a.C_Buffer, dx, _, rfl, (Same.new gD) _ _ (eS _ _ hB.ins), T.c_Buffer, T.n_Buffer__entries, (by show 1 < 1000; decide), ?_⟩
      exact q _ D (fun x o nx hx => (upd_ne nx).trans ((Same.new gD) _ _ (eS _ _ hx))) hD ⟨upd_same, (upd_ne (Ne.symm nb)).trans upd_same⟩
theorem ok_leads_to_frame (T : Txt K mg a) : FnOk P w K mg base CX0 1 a.f_leads_to_frame a.d_leads_to_frame ["word"] (spLeads K) := by
  refine T.F_leads_to_frame.ok sc_leads_to_frame (fun vs H Q E h => ?_) (fun cdv A outer s H vs Q E hr h => ?_)
  · obtain ⟨y, x, rfl, _⟩ := h
    rfl
  · obtain ⟨y, x, rfl, hy, q⟩ := h
    refine ⟨_, (pss_one (ps_ret (pe_and (pe_callB call_isi (by rfl) T.b_isinstance (by decide +kernel) (pa_cons (pv 0) (pa_cons (pe_bltn (v := .ty "tuple") rfl T.b_tuple (by decide +kernel) rfl) pa_nil))) (pe_and (pe_cmpR (op_eq) (pe_callB call_len_seq (by rfl) T.b_len (by decide +kernel) (pa_cons (pv 0) pa_nil)) pe_int (nomark _)) (pe_one (pe_cmpR (op_eq) (pe_ix ix_tup (pv 0) pe_int (fun _ _ => rfl)) pe_str (nomark _))))))), ?_⟩
    refine ⟨_, rfl, _, _, _, _, _, rfl, .ty _, tyx hy, kit_tup _, _, rfl, ?_⟩
    cases x with
    | non => exact iteF q
    | frame f w =>
      cases hy with
      | @tup t xs _ sT aT =>
      cases aT with
      | cons d0 aT =>
      cases aT with
      | cons d1 aT =>
      cases aT with
      | cons d2 aT =>
      cases aT
      cases d0
      exact iteT ⟨_, rfl, _, _, rfl, .inr sT, rfl, _, rfl, iteT ⟨_, rfl, _, _, _, _, rfl, rfl, sT, at_of (j := 0) rfl rfl, rfl, q⟩⟩
    | swap n =>
      cases hy with
      | @tup t xs _ sT aT =>
      cases aT with
      | cons d0 aT =>
      cases aT with
      | cons d1 aT =>
      cases aT
      exact iteT ⟨_, rfl, _, _, rfl, .inr sT, rfl, _, rfl, iteF q⟩
    | file =>
      cases hy with
      | @tup t xs _ sT aT =>
      cases aT with
      | cons d0 aT =>
      cases aT with
      | cons d1 aT =>
      cases aT with
      | cons d2 aT =>
      cases aT
      cases d0
      exact iteT ⟨_, rfl, _, _, rfl, .inr sT, rfl, _, rfl, iteT ⟨_, rfl, _, _, _, _, rfl, rfl, sT, at_of (j := 0) rfl rfl, rfl, q⟩⟩
    | held =>
      cases hy with
      | @tup t xs _ sT aT =>
      cases aT with
      | cons d0 aT =>
      cases aT
      exact iteT ⟨_, rfl, _, _, rfl, .inr sT, rfl, _, rfl, iteF q⟩
theorem ok_Buffer_put (T : Txt K mg a) : FnOk P w K mg base CX0 2 a.f_Buffer_put a.d_Buffer_put ["self", "space", "page", "word"] (spPut K a.C_Buffer) := by
  refine T.F_Buffer_put.ok sc_Buffer_put (fun vs H Q E h => ?_) (fun cdv A outer s H vs Q E hr h => ?_)
  · obtain ⟨b, dx, l, zs, s, p, y, x, rfl, _⟩ := h
    rfl
  · obtain ⟨b, dx, l, zs, sp, pg, y, x, rfl, hB, hE, lim, hy, q⟩ := h
    refine ⟨_, (pss_cons (ps_expr (pe_meth (pv 0) T.c_Buffer T.M_Buffer_drop (ok_Buffer_drop T) (hr.mono (by decide)) T.B_Buffer_drop .nil pass0 (pa_cons (pe_lst (pa_cons (pe_tup (pa_cons (pv 1) (pa_cons (pv 2) pa_nil))) pa_nil)) pa_nil)))
    (pss_one (ps_if (pt_val (pe_call (ok_leads_to_frame T) (hr.mono (by decide)) rfl T.m_leads_to_frame T.F_leads_to_frame.kp T.B_leads_to_frame .nil pass0 (pa_cons (pv 3) pa_nil))) (pss_cons (ps_expr (pe_bm PySem.F.plainAttrs_list PySem.F.slot_list_append PySem.F.type_list_append mt_append (pe_fld (pv 0) rfl) (pa_cons (pe_tup (pa_cons (pv 1) (pa_cons (pv 2) (pa_cons (pe_ix ix_tup (pv 3) pe_int (fun _ _ => rfl)) (pa_cons (pe_ix ix_tup (pv 3) pe_int (fun _ _ => rfl)) pa_nil))))) pa_nil)))
    (pss_one (ps_fld (pv 0) (pe_slice sl_list (pe_fld (pv 0) rfl) (po_some (pe_un un_neg (pe_con rfl T.k_MOST_ENTRIES))) po_none) rfl))) pss_nil))), ?_⟩
    refine ⟨_, rfl, b, dx, _, rfl, hB.ins, rfl, _, rfl, _, rfl, (by show 2 ≤ sizeLine; decide), fun t ht => ⟨(by show 1 ≤ sizeLine; decide), fun u hu => ?_⟩⟩
    have e1 := (Same.new (o := .tup [.int sp, .int pg]) ht).trans (Same.new (o := .lst [.ref t]) hu)
    have tT : upd (upd H t (.tup [.int sp, .int pg])) u (.lst [.ref t]) t = some (.tup [.int sp, .int pg]) := (Same.new hu) _ _ upd_same
    refine ⟨b, dx, l, zs, .ref u, [(sp, pg)], rfl, ⟨e1 _ _ hB.ins, e1 _ _ hB.lst⟩, fun z hz => e1 _ _ (hE z hz), by omega, .inl (.lst (SqL.of upd_same) (.cons (.tup (SqT.of tT) (.cons (.int _) (.cons (.int _) .nil))) .nil)), fun H1 l1 s1 l1f hB1 => ?_⟩
    have kt1 : KT H H1 := (KT.of e1).trans (s1.kt (e1 _ _ hB.ins))
    have hE1 : EnAll H1 (zs.filter fun z => keep [(sp, pg)] z.2) := (hE.kt kt1).filter _
    have sb1 : SameBut b H H1 := (Same.but e1).trans s1
    have wL : ∃ wd, wd = wD x := ⟨_, rfl⟩
    cases x with
    | frame f wr =>
      have hy1 := dp_keep kt1 (by simp [wD, noL, noLs]) hy
      refine ⟨_, rfl, y, _, rfl, hy1, _, rfl, iteT ?_⟩
      cases hy1 with
      | @tup yt xs _ sT aT =>
      cases aT with
      | cons d0 aT =>
      cases aT with
      | cons d1 aT =>
      cases aT with
      | cons d2 aT =>
      cases aT
      cases d0
      cases d1
      cases d2
      -- self._entries.append((space, page, word[1], word[2]))
      refine ⟨_, rfl, b, a.C_Buffer, dx, _, _, rfl, hB1.ins, T.c_Buffer, T.n_Buffer__entries, rfl, .inl ⟨rfl, _, SqL.of hB1.lst⟩, _, rfl, _, rfl, _, rfl, yt, _, _, _, rfl, rfl, sT, at_of (j := 1) rfl rfl,
        _, rfl, yt, _, _, _, rfl, rfl, sT, at_of (j := 2) rfl rfl, (by show 4 ≤ sizeLine; decide), fun t2 ht2 => ?_⟩
      have nlt : l1 ≠ t2 := ne_of_none hB1.lst ht2
      have nbt : b ≠ t2 := ne_of_none hB1.ins ht2
      have nbl : b ≠ l1 := ne_of hB1.ins hB1.lst (fun z => nomatch z)
      have len1 : (zs.filter fun z => keep [(sp, pg)] z.2).length ≤ 2 := Nat.le_trans (List.length_filter_le _ _) lim
      refine ⟨l1, _, _, rfl, rfl, (upd_ne nlt).trans hB1.lst, ?_, ?_⟩
      · rw [List.length_map]
        exact Nat.lt_of_le_of_lt len1 (by decide)
      have eApp : (zs.filter fun z => keep [(sp, pg)] z.2).map aV ++ [V.ref t2] = ((zs.filter fun z => keep [(sp, pg)] z.2) ++ [(t2, (⟨sp, pg, f, wr⟩ : En))]).map aV := by
        rw [List.map_append]
        rfl
      rw [eApp]
      have hA : ∃ zs2 : List (Addr × En), zs2 = (zs.filter fun z => keep [(sp, pg)] z.2) ++ [(t2, (⟨sp, pg, f, wr⟩ : En))] := ⟨_, rfl⟩
      obtain ⟨zs2, ez⟩ := hA
      rw [← ez]
      have len2 : zs2.length ≤ 3 := by rw [ez, List.length_append, List.length_singleton]; omega
      have h2b : upd (upd H1 t2 (.tup [.int sp, .int pg, .int f, .bl wr])) l1 (.lst (zs2.map aV)) b = some (.ins a.C_Buffer dx [("_entries", .ref l1)]) := (upd_ne nbl).trans ((upd_ne nbt).trans hB1.ins)
      have hE2 : EnAll (upd (upd H1 t2 (.tup [.int sp, .int pg, .int f, .bl wr])) l1 (.lst (zs2.map aV))) zs2 := by
        rw [ez]
        refine EnAll.kt (H := upd H1 t2 (.tup [.int sp, .int pg, .int f, .bl wr])) ?_ (KT.lst ((upd_ne nlt).trans hB1.lst))
        exact (hE1.kt (KT.new ht2)).app (.one upd_same)
      have hB2 : upd (upd H1 t2 (.tup [.int sp, .int pg, .int f, .bl wr])) l1 (.lst (zs2.map aV)) l1 = some (.lst (zs2.map aV)) := upd_same
      have sb2 : SameBut b H (upd (upd H1 t2 (.tup [.int sp, .int pg, .int f, .bl wr])) l1 (.lst (zs2.map aV))) := (sb1.trans (Same.but (Same.new ht2))).put (e1.free l1f)
      generalize upd (upd H1 t2 (.tup [.int sp, .int pg, .int f, .bl wr])) l1 (.lst (zs2.map aV)) = H2 at h2b hE2 hB2 sb2 ⊢
      -- self._entries = self._entries[-MOST_ENTRIES:]
      refine ⟨_, rfl, b, a.C_Buffer, dx, _, _, rfl, h2b, T.c_Buffer, T.n_Buffer__entries, rfl, 2, rfl, _, rfl, l1, _, rfl, SqL.of hB2, fun l2 hl2 => ?_⟩
      have nbl2 : b ≠ l2 := ne_of_none h2b hl2
      refine ⟨_, rfl, b, a.C_Buffer, dx, _, rfl, (upd_ne nbl2).trans h2b, T.c_Buffer, T.n_Buffer__entries, (by show 1 < 1000; decide), ?_⟩
      refine q _ l2 (zs2.drop (zs2.length - 2)) ?_ ⟨upd_same, ?_⟩ ?_ ?_
      · exact (sb2.trans (Same.but (Same.new hl2))).own
      · rw [upd_ne (Ne.symm nbl2), upd_same, cut_last2, List.map_drop]
        rw [List.length_map]
      · exact ((hE2.kt (KT.new hl2)).kt (KT.ins ((upd_ne nbl2).trans h2b))).drop _
      · rw [List.map_drop, ez, List.map_append, filter_snd]
        exact last2_drop _ _ ⟨by rw [List.length_append, List.length_singleton, ← filter_snd, List.length_map], by rw [← filter_snd, List.length_map]; exact len1⟩
    | non =>
      refine ⟨_, rfl, y, _, rfl, dp_keep kt1 (by simp [wD, noL, noLs]) hy, _, rfl, iteF ?_⟩
      exact q _ l1 _ sb1 hB1 hE1 (by rw [filter_snd]; rfl)
    | swap n =>
      refine ⟨_, rfl, y, _, rfl, dp_keep kt1 (by simp [wD, noL, noLs]) hy, _, rfl, iteF ?_⟩
      exact q _ l1 _ sb1 hB1 hE1 (by rw [filter_snd]; rfl)
    | file =>
      refine ⟨_, rfl, y, _, rfl, dp_keep kt1 (by simp [wD, noL, noLs]) hy, _, rfl, iteF ?_⟩
      exact q _ l1 _ sb1 hB1 hE1 (by rw [filter_snd]; rfl)
    | held =>
      refine ⟨_, rfl, y, _, rfl, dp_keep kt1 (by simp [wD, noL, noLs]) hy, _, rfl, iteF ?_⟩
      exact q _ l1 _ sb1 hB1 hE1 (by rw [filter_snd]; rfl)
theorem ok_Buffer_frame_for (T : Txt K mg a) : FnOk P w K mg base CX0 1 a.f_Buffer_frame_for a.d_Buffer_frame_for ["self", "space", "page", "writing"] (spFrameFor a.C_Buffer) := by
  refine T.F_Buffer_frame_for.ok sc_Buffer_frame_for (fun vs H Q E h => ?_) (fun cdv A outer s H vs Q E hr h => ?_)
  · obtain ⟨b, dx, l, zs, s, p, wr, rfl, _⟩ := h
    rfl
  · obtain ⟨b, dx, l, zs, sp, pg, wr, rfl, hB, hE, q⟩ := h
    refine ⟨_, (pss_cons (ps_for PassesOwn.never rfl (pi_list (pe_fld (pv 0) rfl)) (pg_tup rfl (pgs_cons (pg_name (i := 4) sc_Buffer_frame_for.nd rfl (Or.inl rfl)) (pgs_cons (pg_name (i := 5) sc_Buffer_frame_for.nd rfl (Or.inl rfl)) (pgs_cons (pg_name (i := 6) sc_Buffer_frame_for.nd rfl (Or.inl rfl)) (pgs_cons (pg_name (i := 7) sc_Buffer_frame_for.nd rfl (Or.inl rfl)) pgs_nil)))))
    (pss_one (ps_if (PW.pt (pw_and (pt_cmpR (op_eqD hr.units) (pe_tup (pa_cons (pv 4) (pa_cons (pv 5) pa_nil))) (pe_tup (pa_cons (pv 1) (pa_cons (pv 2) pa_nil))) (nomark _)) (pw_and1 (PW.pt (pw_or (pt_val (pv 7)) (pw_or1 (pt_not (pt_val (pv 3))))))))) (pss_one (ps_ret (pv 6))) pss_nil)))
    (pss_one (ps_ret pe_non))), ?_⟩
    refine ⟨_, rfl, b, a.C_Buffer, dx, _, _, rfl, hB.ins, T.c_Buffer, T.n_Buffer__entries, rfl, l, rfl, ⟨_, SqL.of hB.lst⟩,
      for_list (K := K) (a := l) (xs := zs.map aV) (fun i σ H' => ∃ x4 x5 x6 x7, σ = [some (.ref b), some (.int sp), some (.int pg), some (.bl wr), x4, x5, x6, x7] ∧ Same H H' ∧ ∀ z ∈ zs.take i, fits sp pg wr z.2 = false)
      ⟨none, none, none, none, rfl, Same.refl H, fun _ h => absurd h (by simp)⟩ (fun i σ H' _ ⟨_, _, _, _, _, e, _⟩ => SqL.of (e _ _ hB.lst)) ?_ ?_⟩
    · rintro i x σ H' hx ⟨x4, x5, x6, x7, rfl, eS, hn⟩
      obtain ⟨z, hz, rfl⟩ := map_get hx
      have hzz := eS _ _ (hE z (mem_of_get hz))
      refine ⟨z.1, eV z.2, rfl, SqT.of hzz, rfl, _, _, rfl, _, _, rfl, _, _, rfl, _, _, rfl, rfl, ?_⟩
      refine ⟨_, rfl, _, rfl, (by show 2 ≤ sizeLine; decide), fun t ht => ⟨_, rfl, _, rfl, (by show 2 ≤ sizeLine; decide), fun u hu => ?_⟩⟩
      have e2 := (Same.new (o := .tup [.int z.2.s, .int z.2.p]) ht).trans (Same.new (o := .tup [.int sp, .int pg]) hu)
      refine ⟨pD (z.2.s, z.2.p), pD (sp, pg), .tup (SqT.of ((Same.new hu) _ _ upd_same)) (.cons (.int _) (.cons (.int _) .nil)), .tup (SqT.of upd_same) (.cons (.int _) (.cons (.int _) .nil)), (shP _).ok, (shP _).ok, _, rfl, ?_⟩
      have next : fits sp pg wr z.2 = false → ∀ y ∈ zs.take (i + 1), fits sp pg wr y.2 = false := fun hf y hy => by
        rw [take_snoc hz] at hy
        rcases List.mem_append.mp hy with hy | hy
        · exact hn y hy
        · rw [List.mem_singleton.mp hy]
          exact hf
      have hit : fits sp pg wr z.2 = true → frameM sp pg wr (zs.map Prod.snd) = some z.2.f := fun hf => by
        unfold frameM
        rw [find_at (i := i) (e := z.2) (by rw [List.getElem?_map, hz]; rfl) (fun y hy => by
          rw [← List.map_take] at hy
          obtain ⟨y', h1, rfl⟩ := List.mem_map.mp hy
          exact hn y' h1) hf]
        rfl
      have eq1 := eqv_pD (z.2.s, z.2.p) (sp, pg)
      cases e : decide ((z.2.s, z.2.p) = (sp, pg)) with
      | false =>
        rw [e] at eq1
        refine ifF eq1 (iteF ⟨_, _, _, _, rfl, eS.trans e2, next ?_⟩)
        unfold fits
        rw [e, Bool.false_and]
      | true =>
        rw [e] at eq1
        refine ifT eq1 ⟨_, rfl, _, rfl, ?_⟩
        cases ew : z.2.w with
        | true =>
          refine iteT (iteT ⟨_, rfl, ?_⟩)
          have := q _ (eS.trans e2)
          rw [hit (by unfold fits; rw [e, ew]; rfl)] at this
          exact this
        | false =>
          refine iteF ⟨_, rfl, _, rfl, ?_⟩
          cases wr with
          | false =>
            refine iteT ⟨_, rfl, ?_⟩
            have := q _ (eS.trans e2)
            rw [hit (by unfold fits; rw [e, ew]; rfl)] at this
            exact this
          | true => exact iteF ⟨_, _, _, _, rfl, eS.trans e2, next (by unfold fits; rw [e, ew]; rfl)⟩
    · rintro σ H' ⟨x4, x5, x6, x7, rfl, eS, hn⟩
      have := q H' eS
      have e0 : frameM sp pg wr (zs.map Prod.snd) = none := by
        unfold frameM
        rw [find_no]
        · rfl
        · intro y hy
          obtain ⟨y', h1, rfl⟩ := List.mem_map.mp hy
          refine hn y' ?_
          rw [List.length_map, List.take_length]
          exact h1
      rw [e0] at this
      exact this
end
def spWord (K : PySem.W.Frag) : Sp := fun vs H Q _ => ∃ (n p : Int), vs = [.int n, .int p] ∧ 0 ≤ n ∧ ∀ (y : V) (x : Wd) (H' : Hp), Same H H' → Dp K H' y (wD x) → Q y H'
def spLPut (K : PySem.W.Frag) : Sp := fun vs H Q _ => ∃ (r : Addr) (ys : List (Addr × En)) (s p : Int) (y : V) (x : Wd), vs = [.ref r, .int s, .int p, y] ∧ SqL K H r (ys.map aV) ∧ EnAll H ys ∧ ys.length ≤ 2 ∧
  Dp K H y (wD x) ∧ ∀ H' r' ys', Same H H' → H' r' = some (.lst (ys'.map aV)) → EnAll H' ys' → ys'.map Prod.snd = putM s p x (ys.map Prod.snd) → Q (.ref r') H'
def spLFrame (K : PySem.W.Frag) : Sp := fun vs H Q _ => ∃ (r : Addr) (ys : List (Addr × En)) (s p : Int) (wr : Bool), vs = [.ref r, .int s, .int p, .bl wr] ∧ H r = some (.lst (ys.map aV)) ∧ EnAll H ys ∧
  ∀ H', Same H H' → Q (optV (frameM s p wr (ys.map Prod.snd))) H'
section
variable {P : Program} {w : World} {K : PySem.W.Frag} {mg : Str → Option Value} {base : Heap} {a : Ad}
theorem ok__law_word (T : Txt K mg a) : FnOk P w K mg base CX0 1 a.f__law_word a.d__law_word ["number", "pick"] (spWord K) := by
  refine T.F__law_word.ok sc__law_word (fun vs H Q E h => ?_) (fun cdv A outer s H vs Q E hr h => ?_)
  · obtain ⟨n, p, rfl, _⟩ := h
    rfl
  · obtain ⟨n, p, rfl, hn, q⟩ := h
    refine ⟨_, (pss_one (ps_ret (pe_ix ix_list (pe_lst (pa_cons (pe_tup (pa_cons pe_str (pa_cons (pe_op op_mod (pv 1) pe_int) (pa_cons (pe_cmpR (op_eq) (pe_op op_mod (pv 0) pe_int) pe_int (nomark _)) pa_nil)))) (pa_cons pe_non (pa_cons (pe_tup (pa_cons pe_str (pa_cons (pe_op op_mod (pv 1) pe_int) pa_nil))) (pa_cons (pe_tup (pa_cons pe_str (pa_cons pe_int (pa_cons pe_int pa_nil)))) (pa_cons (pe_tup (pa_cons pe_str pa_nil)) pa_nil)))))) (pe_callB (call_max2 rfl) (by rfl) T.b_max (by decide +kernel) (pa_cons pe_int (pa_cons (pe_op op_sub (pe_op op_mod (pv 0) pe_int) pe_int) pa_nil))) (fun _ _ => rfl)))), ?_⟩
    refine ⟨_, rfl, _, _, rfl, rfl, (by show (0 : Int) < 12; decide), _, rfl, _, _, rfl, rfl, (by show (0 : Int) < 2; decide), rfl, (by show 3 ≤ sizeLine; decide), fun t1 h1 => ?_⟩
    refine ⟨_, rfl, _, _, rfl, rfl, (by show (0 : Int) < 5; decide), (by show 2 ≤ sizeLine; decide), fun t2 h2 => ⟨(by show 3 ≤ sizeLine; decide), fun t3 h3 => ⟨(by show 1 ≤ sizeLine; decide), fun t4 h4 => ⟨(by show 5 ≤ sizeLine; decide), fun L hL => ?_⟩⟩⟩⟩
    refine ⟨_, rfl, _, _, rfl, rfl, (by show (0 : Int) < 9; decide), _, _, rfl, rfl, _, _, rfl, ?_⟩
    have g1 := Same.new (o := .lst [.ref t1, .non, .ref t2, .ref t3, .ref t4]) hL
    have g2 := (Same.new (o := .tup [.str "held"]) h4).trans g1
    have g3 := (Same.new (o := .tup [.str "file", .int 1, .int 2]) h3).trans g2
    have g4 := (Same.new (o := .tup [.str "swap", .int (p % 5)]) h2).trans g3
    have g5 := (Same.new (o := .tup [.str "frame", .int (p % 12), .bl (decide (V.int (n % 2) = V.int 0))]) h1).trans g4
    have r0 := Int.emod_nonneg n (by decide : (9 : Int) ≠ 0)
    have r1 := Int.emod_lt_of_pos n (by decide : (0 : Int) < 9)
    have ix : ∃ j : Nat, j ≤ 4 ∧ (if n % 9 - 4 > 0 then n % 9 - 4 else 0 : Int) = (j : Int) := ⟨(if n % 9 - 4 > 0 then n % 9 - 4 else 0 : Int).toNat, by split <;> omega, by split <;> omega⟩
    obtain ⟨j, hj, ej⟩ := ix
    rcases (by omega : j = 0 ∨ j = 1 ∨ j = 2 ∨ j = 3 ∨ j = 4) with rfl | rfl | rfl | rfl | rfl
    · exact ⟨L, _, _, _, rfl, rfl, SqL.of upd_same, at_of (j := 0) ej rfl, q _ (.frame (p % 12) (decide (V.int (n % 2) = V.int 0))) _ g5 (.tup (SqT.of (g4 _ _ upd_same)) (.cons (.str _) (.cons (.int _) (.cons (.bl _) .nil))))⟩
    · exact ⟨L, _, _, _, rfl, rfl, SqL.of upd_same, at_of (j := 1) ej rfl, q _ .non _ g5 .non⟩
    · exact ⟨L, _, _, _, rfl, rfl, SqL.of upd_same, at_of (j := 2) ej rfl, q _ (.swap (p % 5)) _ g5 (.tup (SqT.of (g3 _ _ upd_same)) (.cons (.str _) (.cons (.int _) .nil)))⟩
    · exact ⟨L, _, _, _, rfl, rfl, SqL.of upd_same, at_of (j := 3) ej rfl, q _ .file _ g5 (.tup (SqT.of (g2 _ _ upd_same)) (.cons (.str _) (.cons (.int _) (.cons (.int _) .nil))))⟩
    · exact ⟨L, _, _, _, rfl, rfl, SqL.of upd_same, at_of (j := 4) ej rfl, q _ .held _ g5 (.tup (SqT.of (g1 _ _ upd_same)) (.cons (.str _) .nil))⟩
theorem ok__law_frame (T : Txt K mg a) : FnOk P w K mg base CX0 1 a.f__law_frame a.d__law_frame ["rows", "space", "page", "writing"] (spLFrame K) := by
  refine T.F__law_frame.ok sc__law_frame (fun vs H Q E h => ?_) (fun cdv A outer s H vs Q E hr h => ?_)
  · obtain ⟨r, zs, s, p, wr, rfl, _⟩ := h
    rfl
  · obtain ⟨r, zs, sp, pg, wr, rfl, hB, hE, q⟩ := h
    refine ⟨_, (pss_cons (ps_for PassesOwn.never rfl (pi_list (pv 0)) (pg_name (i := 4) sc__law_frame.nd rfl (Or.inl rfl))
    (pss_one (ps_if (PW.pt (pw_and (pt_cmpR (op_eqD hr.units) (pe_slice sl_tupA (pv 4) po_none (po_some pe_int)) (pe_tup (pa_cons (pv 1) (pa_cons (pv 2) pa_nil))) (nomark _)) (pw_and1 (PW.pt (pw_or (pt_val (pe_ix ix_tup (pv 4) pe_int (fun _ _ => rfl))) (pw_or1 (pt_not (pt_val (pv 3))))))))) (pss_one (ps_ret (pe_ix ix_tup (pv 4) pe_int (fun _ _ => rfl)))) pss_nil)))
    (pss_one (ps_ret pe_non))), ?_⟩
    refine ⟨_, rfl, r, rfl, ⟨_, SqL.of hB⟩,
      for_list (K := K) (a := r) (xs := zs.map aV) (fun i σ H' => ∃ x4, σ = [some (.ref r), some (.int sp), some (.int pg), some (.bl wr), x4] ∧ Same H H' ∧ ∀ z ∈ zs.take i, fits sp pg wr z.2 = false)
      ⟨none, rfl, Same.refl H, fun _ h => absurd h (by simp)⟩ (fun i σ H' _ ⟨_, _, e, _⟩ => SqL.of (e _ _ hB)) ?_ ?_⟩
    · rintro i x σ H' hx ⟨x4, rfl, eS, hn⟩
      obtain ⟨z, hz, rfl⟩ := map_get hx
      have hzz := eS _ _ (hE z (mem_of_get hz))
      refine ⟨_, rfl, 2, rfl, z.1, eV z.2, rfl, SqT.of hzz, (fun h => absurd h.2 (by show ¬ (2 : Nat) = 4; decide)), fun _ t ht => ⟨_, rfl, _, rfl, (by show 2 ≤ sizeLine; decide), fun u hu => ?_⟩⟩
      have e2 := (Same.new (o := .tup [.int z.2.s, .int z.2.p]) ht).trans (Same.new (o := .tup [.int sp, .int pg]) hu)
      refine ⟨pD (z.2.s, z.2.p), pD (sp, pg), .tup (SqT.of ((Same.new hu) _ _ upd_same)) (.cons (.int _) (.cons (.int _) .nil)), .tup (SqT.of upd_same) (.cons (.int _) (.cons (.int _) .nil)), (shP _).ok, (shP _).ok, _, rfl, ?_⟩
      have next : fits sp pg wr z.2 = false → ∀ y ∈ zs.take (i + 1), fits sp pg wr y.2 = false := fun hf y hy => by
        rw [take_snoc hz] at hy
        rcases List.mem_append.mp hy with hy | hy
        · exact hn y hy
        · rw [List.mem_singleton.mp hy]
          exact hf
      have hit : fits sp pg wr z.2 = true → frameM sp pg wr (zs.map Prod.snd) = some z.2.f := fun hf => by
        unfold frameM
        rw [find_at (i := i) (e := z.2) (by rw [List.getElem?_map, hz]; rfl) (fun y hy => by
          rw [← List.map_take] at hy
          obtain ⟨y', h1, rfl⟩ := List.mem_map.mp hy
          exact hn y' h1) hf]
        rfl
      have hz3 := (eS.trans e2) _ _ (hE z (mem_of_get hz))
      have eq1 := eqv_pD (z.2.s, z.2.p) (sp, pg)
      cases e : decide ((z.2.s, z.2.p) = (sp, pg)) with
      | false =>
        rw [e] at eq1
        refine ifF eq1 (iteF ⟨_, rfl, eS.trans e2, next ?_⟩)
        unfold fits
        rw [e, Bool.false_and]
      | true =>
        rw [e] at eq1
        refine ifT eq1 ⟨_, rfl, z.1, eV z.2, _, _, rfl, rfl, SqT.of hz3, at_of (j := 3) rfl rfl, _, rfl, ?_⟩
        cases ew : z.2.w with
        | true =>
          refine iteT (iteT ⟨_, rfl, z.1, eV z.2, _, _, rfl, rfl, SqT.of hz3, at_of (j := 2) rfl rfl, ?_⟩)
          have := q _ (eS.trans e2)
          rw [hit (by unfold fits; rw [e, ew]; rfl)] at this
          exact this
        | false =>
          refine iteF ⟨_, rfl, _, rfl, ?_⟩
          cases wr with
          | false =>
            refine iteT ⟨_, rfl, z.1, eV z.2, _, _, rfl, rfl, SqT.of hz3, at_of (j := 2) rfl rfl, ?_⟩
            have := q _ (eS.trans e2)
            rw [hit (by unfold fits; rw [e, ew]; rfl)] at this
            exact this
          | true => exact iteF ⟨_, rfl, eS.trans e2, next (by unfold fits; rw [e, ew]; rfl)⟩
    · rintro σ H' ⟨x4, rfl, eS, hn⟩
      have := q H' eS
      have e0 : frameM sp pg wr (zs.map Prod.snd) = none := by
        unfold frameM
        rw [find_no]
        · rfl
        · intro y hy
          obtain ⟨y', h1, rfl⟩ := List.mem_map.mp hy
          refine hn y' ?_
          rw [List.length_map, List.take_length]
          exact h1
      rw [e0] at this
      exact this
theorem ok__law_put (T : Txt K mg a) : FnOk P w K mg base CX0 1 a.f__law_put a.d__law_put ["rows", "space", "page", "word"] (spLPut K) := by
  refine T.F__law_put.ok sc__law_put (fun vs H Q E h => ?_) (fun cdv A outer s H vs Q E hr h => ?_)
  · obtain ⟨r, ys, s, p, y, x, rfl, _⟩ := h
    rfl
  · obtain ⟨r, zs, sp, pg, y, x, rfl, hR, hE, lim, hy, q⟩ := h
    refine ⟨_, (pss_cons (ps_setLc (i := 0) (own := [("row", 4)]) (g := gName 4) (tt := _) rfl sc__law_put.nd rfl rfl (sw_true rfl rfl rfl (by decide +kernel)) (pi_list (pv 0)) (blkOk_by (own := [("row", 4)]) (N := ["rows", "space", "page", "word", "row"]) (sc := defScope s__law_put) (by decide +kernel)) (fun _ _ _ _ _ => (pg_name (i := 4) sc__law_put.nd rfl (Or.inl rfl))) (fun _ _ _ _ _ => (pts_one (pt_cmpR ((op_neD hr.units : OpR _ (compareOp .NotEq) (rNeD K))) (pe_slice (sl_tupA : SlR _ (rSlA K)) (pv 4) po_none (po_some pe_int)) (pe_tup (pa_cons (pv 1) (pa_cons (pv 2) pa_nil))) (nomark _)))) (fun _ _ _ _ _ => (pv 4)))
    (pss_mid (ps_if (PW.pt (pw_and (pt_cmpR (op_notN) (pv 3) pe_non (by rfl)) (pw_and1 (pt_cmpR (op_eq) (pe_ix ix_tup (pv 3) pe_int (fun _ _ => rfl)) pe_str (nomark _))))) (pss_one (ps_set (i := 0) sc__law_put.nd rfl (Or.inl rfl) (pe_op op_cat (pv 0) (pe_lst (pa_cons (pe_tup (pa_cons (pv 1) (pa_cons (pv 2) (pa_cons (pe_ix ix_tup (pv 3) pe_int (fun _ _ => rfl)) (pa_cons (pe_ix ix_tup (pv 3) pe_int (fun _ _ => rfl)) pa_nil))))) pa_nil))))) pss_nil)
    (pss_mid (ps_if (pt_cmpR (op_gt) (pe_callB call_len_seq (by rfl) T.b_len (by decide +kernel) (pa_cons (pv 0) pa_nil)) pe_int (nomark _)) (pss_one (ps_set (i := 0) sc__law_put.nd rfl (Or.inl rfl) (pe_slice sl_list (pv 0) (po_some pe_int) po_none))) pss_nil)
    (pss_one (ps_ret (pv 0)))))), ?_⟩
    refine ⟨_, rfl, r, rfl, ⟨_, hR⟩, fun D hD => ?_⟩
    refine lc_list (K := K) (a := r) (xs := zs.map aV) (fun i H' => ∃ G, H' = upd G D (.lst (((zs.take i).filter fun z => keep [(sp, pg)] z.2).map aV)) ∧ Same H G ∧ G D = none)
      ⟨H, rfl, Same.refl H, hD⟩ (fun i H' _ ⟨G, e, eS, gD⟩ => by rw [e]; exact (Same.new gD).seq (eS.seq hR)) ?_ ?_
    · rintro i x' H' hx ⟨G, rfl, eS, gD⟩
      obtain ⟨z, hz, rfl⟩ := map_get hx
      have hzz := eS _ _ (hE z (mem_of_get hz))
      refine ⟨rfl, _, rfl, 2, rfl, z.1, eV z.2, rfl, SqT.of ((Same.new gD) _ _ hzz), (fun h => absurd h.2 (by show ¬ (2 : Nat) = 4; decide)), fun _ t ht => ⟨_, rfl, _, rfl, (by show 2 ≤ sizeLine; decide), fun u hu => ?_⟩⟩
      have ntD : t ≠ D := fun e => by rw [e, upd_same] at ht; cases ht
      have gt : G t = none := (upd_ne ntD).symm.trans ht
      have nuD : u ≠ D := fun e => by
        rw [e, upd_ne (Ne.symm ntD), upd_same] at hu
        cases hu
      have gu : upd G t (.tup [.int z.2.s, .int z.2.p]) u = none := by
        by_cases e : u = t
        · rw [e] at hu
          have : (upd (upd G D (.lst (((zs.take i).filter fun z => keep [(sp, pg)] z.2).map aV))) t (.tup [.int z.2.s, .int z.2.p])) t = none := hu
          rw [upd_same] at this
          cases this
        · rw [upd_ne e]
          have : (upd (upd G D (.lst (((zs.take i).filter fun z => keep [(sp, pg)] z.2).map aV))) t (.tup [.int z.2.s, .int z.2.p])) u = none := hu
          rw [upd_ne e, upd_ne nuD] at this
          exact this
      have eC : upd (upd (upd G D (.lst (((zs.take i).filter fun z => keep [(sp, pg)] z.2).map aV))) t (.tup [.int z.2.s, .int z.2.p])) u (.tup [.int sp, .int pg]) =
          upd (upd (upd G t (.tup [.int z.2.s, .int z.2.p])) u (.tup [.int sp, .int pg])) D (.lst (((zs.take i).filter fun z => keep [(sp, pg)] z.2).map aV)) := by
        rw [upd_comm (Ne.symm ntD), upd_comm (Ne.symm nuD)]
      have eG : Same H (upd (upd G t (.tup [.int z.2.s, .int z.2.p])) u (.tup [.int sp, .int pg])) := eS.trans ((Same.new gt).trans (Same.new gu))
      have gD2 : upd (upd G t (.tup [.int z.2.s, .int z.2.p])) u (.tup [.int sp, .int pg]) D = none := (upd_ne (Ne.symm nuD)).trans ((upd_ne (Ne.symm ntD)).trans gD)
      refine ⟨pD (z.2.s, z.2.p), pD (sp, pg), .tup (SqT.of ((Same.new hu) _ _ upd_same)) (.cons (.int _) (.cons (.int _) .nil)), .tup (SqT.of upd_same) (.cons (.int _) (.cons (.int _) .nil)), (shP _).ok, (shP _).ok, _, rfl, ?_⟩
      have ek : (!PyData.eqv (pD (z.2.s, z.2.p)) (pD (sp, pg))) = keep [(sp, pg)] z.2 := by rw [eqv_pD, keep_one]
      refine ite2 (fun c => ?_) (fun c => ?_)
      · refine ⟨_, rfl, _, (upd_ne (Ne.symm nuD)).trans ((upd_ne (Ne.symm ntD)).trans upd_same), ?_, _, ?_, eG, gD2⟩
        · rw [List.length_map]
          refine Nat.lt_of_le_of_lt (Nat.le_trans (List.length_filter_le _ _) (by rw [List.length_take]; exact Nat.le_trans (Nat.min_le_right _ _) lim)) (by decide : 2 < sizeLine)
        · rw [ek] at c
          show upd (upd (upd (upd G D _) t (.tup [.int z.2.s, .int z.2.p])) u (.tup [.int sp, .int pg])) D _ = _
          rw [eC, upd_upd, take_snoc hz, List.filter_append, List.map_append, List.filter_cons, if_pos c]
          rfl
      · refine ⟨_, ?_, eG, gD2⟩
        rw [ek] at c
        show upd (upd (upd G D _) t (.tup [.int z.2.s, .int z.2.p])) u (.tup [.int sp, .int pg]) = _
        rw [eC, take_snoc hz, List.filter_append, List.filter_cons, if_neg c, List.filter_nil, List.append_nil]
    · rintro H' ⟨G, rfl, eS, gD⟩
      rw [List.length_map, List.take_length]
      have e1 : Same H (upd G D (.lst ((zs.filter fun z => keep [(sp, pg)] z.2).map aV))) := eS.trans (Same.new gD)
      have hD1 : upd G D (.lst ((zs.filter fun z => keep [(sp, pg)] z.2).map aV)) D = some (.lst ((zs.filter fun z => keep [(sp, pg)] z.2).map aV)) := upd_same
      generalize upd G D (.lst ((zs.filter fun z => keep [(sp, pg)] z.2).map aV)) = H1 at e1 hD1 ⊢
      have hE1 : EnAll H1 (zs.filter fun z => keep [(sp, pg)] z.2) := (hE.kt (KT.of e1)).filter _
      have len1 : (zs.filter fun z => keep [(sp, pg)] z.2).length ≤ 2 := Nat.le_trans (List.length_filter_le _ _) lim
      have len0 : (zs.map Prod.snd).length ≤ 2 := by rw [List.length_map]; exact lim
      refine ⟨fun σ' H' => ∃ (r' : Addr) (ys' : List (Addr × En)), σ' = [some (.ref r'), some (.int sp), some (.int pg), some y, none] ∧ Same H H' ∧ H' r' = some (.lst (ys'.map aV)) ∧ EnAll H' ys' ∧ ys'.map Prod.snd = midM sp pg x (zs.map Prod.snd), ?_, ?_⟩
      · have hy1 := dp_mono e1 hy
        have stay : (∀ f w, x ≠ .frame f w) → ∃ (r' : Addr) (ys' : List (Addr × En)), [some (V.ref D), some (.int sp), some (.int pg), some y, none] = [some (.ref r'), some (.int sp), some (.int pg), some y, none] ∧ Same H H1 ∧ H1 r' = some (.lst (ys'.map aV)) ∧ EnAll H1 ys' ∧ ys'.map Prod.snd = midM sp pg x (zs.map Prod.snd) := fun nf =>
          ⟨D, _, rfl, e1, hD1, hE1, by
            rw [filter_snd]
            cases x with
            | frame f w => exact absurd rfl (nf f w)
            | _ => rfl⟩
        cases x with
        | non =>
          cases hy1
          exact ⟨_, rfl, rfl, _, rfl, iteF (stay fun _ _ z => nomatch z)⟩
        | swap n =>
          cases hy1 with
          | @tup yt xs _ sT aT =>
          cases aT with
          | cons d0 aT =>
          cases d0
          exact ⟨_, rfl, rfl, _, rfl, iteT ⟨_, rfl, yt, _, _, _, rfl, rfl, sT, at_of (j := 0) rfl rfl, rfl, _, rfl, iteF (stay fun _ _ z => nomatch z)⟩⟩
        | file =>
          cases hy1 with
          | @tup yt xs _ sT aT =>
          cases aT with
          | cons d0 aT =>
          cases d0
          exact ⟨_, rfl, rfl, _, rfl, iteT ⟨_, rfl, yt, _, _, _, rfl, rfl, sT, at_of (j := 0) rfl rfl, rfl, _, rfl, iteF (stay fun _ _ z => nomatch z)⟩⟩
        | held =>
          cases hy1 with
          | @tup yt xs _ sT aT =>
          cases aT with
          | cons d0 aT =>
          cases d0
          exact ⟨_, rfl, rfl, _, rfl, iteT ⟨_, rfl, yt, _, _, _, rfl, rfl, sT, at_of (j := 0) rfl rfl, rfl, _, rfl, iteF (stay fun _ _ z => nomatch z)⟩⟩
        | frame f wr =>
          cases hy1 with
          | @tup yt xs _ sT aT =>
          cases aT with
          | cons d0 aT =>
          cases aT with
          | cons d1 aT =>
          cases aT with
          | cons d2 aT =>
          cases aT
          cases d0
          cases d1
          cases d2
          refine ⟨_, rfl, rfl, _, rfl, iteT ⟨_, rfl, yt, _, _, _, rfl, rfl, sT, at_of (j := 0) rfl rfl, rfl, _, rfl, iteT ?_⟩⟩
          refine ⟨_, rfl, _, rfl, _, rfl, _, rfl, yt, _, _, _, rfl, rfl, sT, at_of (j := 1) rfl rfl, _, rfl, yt, _, _, _, rfl, rfl, sT, at_of (j := 2) rfl rfl, (by show 4 ≤ sizeLine; decide), fun t2 ht2 => ⟨(by show 1 ≤ sizeLine; decide), fun u2 hu2 => ?_⟩⟩
          have e2 := (Same.new (o := .tup [.int sp, .int pg, .int f, .bl wr]) ht2).trans (Same.new (o := .lst [.ref t2]) hu2)
          refine ⟨D, u2, _, _, rfl, rfl, e2 _ _ hD1, upd_same, ?_, fun r2 hr2 => ?_⟩
          · rw [List.length_map]
            exact Nat.le_trans (by show _ + 1 ≤ 10; omega) (by decide)
          · have e3 := e2.trans (Same.new (o := .lst ((zs.filter fun z => keep [(sp, pg)] z.2).map aV ++ [V.ref t2])) hr2)
            refine ⟨r2, (zs.filter fun z => keep [(sp, pg)] z.2) ++ [(t2, (⟨sp, pg, f, wr⟩ : En))], rfl, e1.trans e3, ?_, (hE1.kt (KT.of e3)).app (.one ?_), ?_⟩
            · rw [upd_same, List.map_append]
              rfl
            · exact ((Same.new hu2).trans (Same.new hr2)) _ _ upd_same
            · rw [List.map_append, filter_snd]
              rfl
      · rintro σ2 H2 ⟨r', ys', rfl, e2, hr', hE', em⟩
        have len3 : ys'.length ≤ 3 := by
          have := midM_len sp pg x len0
          rw [← em, List.length_map] at this
          exact this
        refine ⟨fun σ' H' => ∃ (r' : Addr) (ys' : List (Addr × En)), σ' = [some (.ref r'), some (.int sp), some (.int pg), some y, none] ∧ Same H H' ∧ H' r' = some (.lst (ys'.map aV)) ∧ EnAll H' ys' ∧ ys'.map Prod.snd = putM sp pg x (zs.map Prod.snd), ?_, ?_⟩
        · refine ⟨_, rfl, r', _, rfl, .inl (SqL.of hr'), _, _, rfl, rfl, _, rfl, ite2 (fun c => ?_) (fun c => ?_)⟩
          · refine ⟨_, rfl, 1, rfl, r', _, rfl, SqL.of hr', fun r2 hr2 => ?_⟩
            refine ⟨r2, ys'.drop 1, rfl, e2.trans (Same.new hr2), ?_, (hE'.kt (KT.new hr2)).drop 1, ?_⟩
            · rw [upd_same, cut1, List.map_drop]
            · rw [← last2_mid sp pg x len0, ← em, List.map_drop]
              unfold last2
              rw [List.length_map] at c ⊢
              rw [if_pos (by have := of_decide_eq_true c; omega)]
          · refine ⟨r', ys', rfl, e2, hr', hE', ?_⟩
            rw [← last2_mid sp pg x len0, ← em]
            unfold last2
            rw [List.length_map] at c ⊢
            rw [if_neg (fun z => c (decide_eq_true (by omega)))]
        · rintro σ3 H3 ⟨r3, ys3, rfl, e3, hr3, hE3, em3⟩
          exact ⟨_, rfl, q H3 r3 ys3 e3 hr3 hE3 em3⟩
end

/-! ### the law -/
def spLaw (K : PySem.W.Frag) : Sp := fun vs H Q _ => ∃ (p : Addr) (ns : List Int), vs = [.ref p] ∧ SqL K H p (ns.map V.int) ∧ ns.length ≤ 63 ∧ ∀ H', Q (.bl true) H'
structure LB (C : Addr) (H : Hp) (b dx l r tp : Addr) (ts : List Int) (zs ys : List (Addr × En)) : Prop where
  buf : BufAt C H b dx l (zs.map aV)
  ez : EnAll H zs
  rows : H r = some (.lst (ys.map aV))
  ey : EnAll H ys
  tape : H tp = some (.lst (ts.map V.int))
  len : zs.length ≤ 2
section
variable {K : PySem.W.Frag} {C : Addr} {H H2 : Hp} {b dx l r tp : Addr} {ts : List Int} {zs ys : List (Addr × En)}
theorem LB.same (L : LB C H b dx l r tp ts zs ys) (e : Same H H2) : LB C H2 b dx l r tp ts zs ys :=
  ⟨⟨e _ _ L.buf.ins, e _ _ L.buf.lst⟩, L.ez.kt (KT.of e), e _ _ L.rows, L.ey.kt (KT.of e), e _ _ L.tape, L.len⟩
theorem LB.but (L : LB C H b dx l r tp ts zs ys) (e : SameBut b H H2) {l2 : Addr} {zs2 : List (Addr × En)} (hB : BufAt C H2 b dx l2 (zs2.map aV)) (hE : EnAll H2 zs2) (hl : zs2.length ≤ 2) : LB C H2 b dx l2 r tp ts zs2 ys :=
  ⟨hB, hE, e _ _ (ne_of L.rows L.buf.ins (fun z => nomatch z)) L.rows, L.ey.kt (e.kt L.buf.ins), e _ _ (ne_of L.tape L.buf.ins (fun z => nomatch z)) L.tape, hl⟩
theorem LB.rows2 (L : LB C H b dx l r tp ts zs ys) {r2 : Addr} {ys2 : List (Addr × En)} (h : H r2 = some (.lst (ys2.map aV))) (k : EnAll H ys2) : LB C H b dx l r2 tp ts zs ys2 := ⟨L.buf, L.ez, h, k, L.tape, L.len⟩
end
theorem lenY {C : Addr} {H : Hp} {b dx l r tp : Addr} {ts : List Int} {zs2 : List (Addr × En)} (ys zs : List (Addr × En)) (eq : ys.map Prod.snd = zs.map Prod.snd) (_ : LB C H b dx l r tp ts zs2 ys) (h : zs.length ≤ 2) : ys.length ≤ 2 := by
  have := congrArg List.length eq
  rw [List.length_map, List.length_map] at this
  rw [this]
  exact h
/-- pairs in the heap -/
def PAll (H : Hp) (qs : List (Addr × (Int × Int))) : Prop := ∀ z ∈ qs, H z.1 = some (.tup [.int z.2.1, .int z.2.2])
def bV (z : Addr × (Int × Int)) : V := .ref z.1
theorem PAll.dp {K : PySem.W.Frag} {H : Hp} : ∀ {qs : List (Addr × (Int × Int))}, PAll H qs → DpAll K H (qs.map bV) ((qs.map Prod.snd).map pD)
  | [], _ => .nil
  | z :: qs, h => .cons (.tup (SqT.of (h z (List.mem_cons_self ..))) (.cons (.int _) (.cons (.int _) .nil))) (PAll.dp fun y hy => h y (List.mem_cons_of_mem _ hy))
theorem PAll.kt {H H' : Hp} {qs : List (Addr × (Int × Int))} (h : PAll H qs) (e : KT H H') : PAll H' qs := fun z hz => e _ _ (h z hz) True.intro
section
variable {P : Program} {w : World} {K : PySem.W.Frag} {mg : Str → Option Value} {base : Heap} {a : Ad}
theorem ok_law (T : Txt K mg a) : FnOk P w K mg base CX0 8 a.f_law a.d_law ["script"] (spLaw K) := by
  refine T.F_law.ok sc_law (fun vs H Q E h => ?_) (fun cdv A outer s H vs Q E hr h => ?_)
  · obtain ⟨p, ns, rfl, _⟩ := h
    rfl
  · obtain ⟨sp, ns, rfl, hS, hlen, q⟩ := h
    refine ⟨_, (pss_cons (ps_set (i := 1) sc_law.nd rfl (Or.inl rfl) (pe_call (ok__law_tape T) (hr.mono (by decide)) rfl T.m__law_tape T.F__law_tape.kp T.B__law_tape .nil pass0 (pa_cons (pv 0) pa_nil)))
    (pss_cons (ps_set (i := 2) sc_law.nd rfl (Or.inl rfl) (pe_make0 T.mk_Buffer (ok_Buffer_init T) (hr.mono (by decide)) rfl T.m_Buffer T.B_Buffer_init .nil pass0))
    (pss_cons (ps_set (i := 3) sc_law.nd rfl (Or.inl rfl) (pe_lst pa_nil))
    (pss_cons (ps_if (pt_cmpR (op_neD hr.units) (pe_meth0 (pv 2) T.c_Buffer T.M_Buffer_entries (ok_Buffer_entries T) (hr.mono (by decide)) T.B_Buffer_entries .nil pass0) (pe_lst pa_nil) (nomark _)) (pss_one (ps_ret pe_bl)) pss_nil)
    (pss_cons (ps_for PassesOwn.never rfl (pi_range1 rfl T.b_range (pa_cons (pe_callB (call_min2 rfl) (by rfl) T.b_min (by decide +kernel) (pa_cons pe_int (pa_cons (pe_op op_fdiv (pe_callB call_len_seq (by rfl) T.b_len (by decide +kernel) (pa_cons (pv 1) pa_nil)) pe_int) pa_nil))) pa_nil)) (pg_name (i := 4) sc_law.nd rfl (Or.inl rfl))
    (pss_cons (ps_set (i := 5) sc_law.nd rfl (Or.inl rfl) (pe_call (ok__law_at T) (hr.mono (by decide)) rfl T.m__law_at T.F__law_at.kp T.B__law_at .nil pass0 (pa_cons (pv 1) (pa_cons (pe_op op_mul pe_int (pv 4)) pa_nil))))
    (pss_cons (ps_set (i := 6) sc_law.nd rfl (Or.inr rfl) (pe_call (ok__law_at T) (hr.mono (by decide)) rfl T.m__law_at T.F__law_at.kp T.B__law_at .nil pass0 (pa_cons (pv 1) (pa_cons (pe_op op_add (pe_op op_mul pe_int (pv 4)) pe_int) pa_nil))))
    (pss_cons (ps_set (i := 7) sc_law.nd rfl (Or.inl rfl) (pe_op op_mod (pv 6) pe_int))
    (pss_cons (ps_set (i := 8) sc_law.nd rfl (Or.inl rfl) (pe_ix ix_list (pe_lst (pa_cons pe_int (pa_cons pe_int (pa_cons pe_int (pa_cons pe_int pa_nil))))) (pe_op op_mod (pe_op op_fdiv (pv 6) pe_int) pe_int) (fun _ _ => rfl)))
    (pss_mid (ps_if (pt_cmpR (op_lt) (pe_op op_mod (pv 5) pe_int) pe_int (nomark _)) (pss_cons (ps_set (i := 9) sc_law.nd rfl (Or.inl rfl) (pe_call (ok__law_word T) (hr.mono (by decide)) rfl T.m__law_word T.F__law_word.kp T.B__law_word .nil pass0 (pa_cons (pe_op op_fdiv (pv 5) pe_int) (pa_cons (pe_op op_fdiv (pv 6) pe_int) pa_nil))))
    (pss_cons (ps_expr (pe_meth (pv 2) T.c_Buffer T.M_Buffer_put (ok_Buffer_put T) (hr.mono (by decide)) T.B_Buffer_put .nil pass0 (pa_cons (pv 7) (pa_cons (pv 8) (pa_cons (pv 9) pa_nil)))))
    (pss_one (ps_set (i := 3) sc_law.nd rfl (Or.inl rfl) (pe_call (ok__law_put T) (hr.mono (by decide)) rfl T.m__law_put T.F__law_put.kp T.B__law_put .nil pass0 (pa_cons (pv 3) (pa_cons (pv 7) (pa_cons (pv 8) (pa_cons (pv 9) pa_nil))))))))) (pss_cons (ps_set (i := 10) sc_law.nd rfl (Or.inr rfl) (pe_lc (own := [("n", 16)]) (g := gName 16) (tt := tYes) rfl sc_law.nd (pi_range1 rfl T.b_range (pa_cons (pe_op op_mod (pe_op op_fdiv (pv 5) pe_int) pe_int) pa_nil)) (blkOk_by (own := [("n", 16)]) (N := ["script", "tape", "buffer", "rows", "k", "number", "pick", "space", "page", "word", "pairs", "passed", "told", "writing", "due", "frame", "n", "row"]) (sc := defScope s_law) (by decide +kernel)) (fun _ _ _ _ _ => (pg_name (i := 16) sc_law.nd rfl (Or.inl rfl))) (fun _ _ _ _ _ => pts_nil) (fun _ _ _ _ _ => (pe_tup (pa_cons (pe_op op_mod (pv 16) pe_int) (pa_cons (pe_ix (ix_list : IxR _ (rIxL K)) (pe_lst (pa_cons pe_int (pa_cons pe_int (pa_cons pe_int (pa_cons pe_int pa_nil))))) (pe_op op_mod (pe_op op_add (pe_op op_fdiv (pv 6) pe_int) (pv 16)) pe_int) (fun _ _ => rfl)) pa_nil))))))
    (pss_cons (ps_set (i := 11) sc_law.nd rfl (Or.inl rfl) (pe_callTy call_list_of (by rfl) T.b_list (by decide +kernel) (pa_cons (pv 10) pa_nil)))
    (pss_mid (ps_if (pt_cmpR (op_eq) (pe_op op_mod (pv 6) pe_int) pe_int (nomark _)) (pss_one (ps_expr (pe_meth (pv 2) T.c_Buffer T.M_Buffer_drop (ok_Buffer_drop T) (hr.mono (by decide)) T.B_Buffer_drop .nil pass0 (pa_cons (pe_callTy call_tuple_of (by rfl) T.b_tuple (by decide +kernel) (pa_cons (pv 10) pa_nil)) pa_nil)))) (pss_one (ps_expr (pe_meth (pv 2) T.c_Buffer T.M_Buffer_drop (ok_Buffer_drop T) (hr.mono (by decide)) T.B_Buffer_drop .nil pass0 (pa_cons (pv 11) pa_nil)))))
    (pss_cons (ps_if (pt_cmpR (op_neD hr.units) (pv 11) (pv 10) (nomark _)) (pss_one (ps_ret pe_bl)) pss_nil)
    (pss_one (ps_setLc (i := 3) (own := [("row", 17)]) (g := gName 17) (tt := _) rfl sc_law.nd rfl rfl (sw_true rfl rfl rfl (by decide +kernel)) (pi_list (pv 3)) (blkOk_by (own := [("row", 17)]) (N := ["script", "tape", "buffer", "rows", "k", "number", "pick", "space", "page", "word", "pairs", "passed", "told", "writing", "due", "frame", "n", "row"]) (sc := defScope s_law) (by decide +kernel)) (fun _ _ _ _ _ => (pg_name (i := 17) sc_law.nd rfl (Or.inl rfl))) (fun _ _ _ _ _ => (pts_one (pt_cmpR ((op_niD (hu65 hr) : OpR _ (compareOp .NotIn) (rNiD K))) (pe_slice (sl_tupA : SlR _ (rSlA K)) (pv 17) po_none (po_some pe_int)) (pv 10) rfl))) (fun _ _ _ _ _ => (pv 17)))))))))
    (pss_cons (ps_set (i := 12) sc_law.nd rfl (Or.inl rfl) (pe_meth0 (pv 2) T.c_Buffer T.M_Buffer_entries (ok_Buffer_entries T) (hr.mono (by decide)) T.B_Buffer_entries .nil pass0))
    (pss_cons (ps_if (PW.pt (pw_or (pt_not (pt_val (pe_callB call_isi (by rfl) T.b_isinstance (by decide +kernel) (pa_cons (pv 12) (pa_cons (pe_bltn (v := .ty "list") rfl T.b_list (by decide +kernel) rfl) pa_nil))))) (pw_or1 (pt_cmpR (op_neD hr.units) (pv 12) (pv 3) (nomark _))))) (pss_one (ps_ret pe_bl)) pss_nil)
    (pss_cons (ps_expr (pe_bm PySem.F.plainAttrs_list PySem.F.slot_list_append PySem.F.type_list_append mt_append (pv 12) (pa_cons (pe_tup (pa_cons pe_int (pa_cons pe_int (pa_cons pe_int (pa_cons pe_bl pa_nil))))) pa_nil)))
    (pss_one (ps_for PassesOwn.never rfl (pi_list (pe_lst (pa_cons pe_bl (pa_cons pe_bl pa_nil)))) (pg_name (i := 13) sc_law.nd rfl (Or.inl rfl))
    (pss_cons (ps_set (i := 14) sc_law.nd rfl (Or.inl rfl) (pe_call (ok__law_frame T) (hr.mono (by decide)) rfl T.m__law_frame T.F__law_frame.kp T.B__law_frame .nil pass0 (pa_cons (pv 3) (pa_cons (pv 7) (pa_cons (pv 8) (pa_cons (pv 13) pa_nil))))))
    (pss_cons (ps_set (i := 15) sc_law.nd rfl (Or.inl rfl) (pe_meth (pv 2) T.c_Buffer T.M_Buffer_frame_for (ok_Buffer_frame_for T) (hr.mono (by decide)) T.B_Buffer_frame_for .nil pass0 (pa_cons (pv 7) (pa_cons (pv 8) (pa_cons (pv 13) pa_nil)))))
    (pss_one (ps_if (PW.pt (pw_or (pt_cmpR (op_ne) (pe_cmpR (op_isN) (pv 14) pe_non (by rfl)) (pe_cmpR (op_isN) (pv 15) pe_non (by rfl)) (nomark _)) (pw_or1 (PW.pt (pw_and (pt_cmpR (op_notN) (pv 14) pe_non (by rfl)) (pw_and1 (pt_cmpR (op_ne) (pv 15) (pv 14) (nomark _)))))))) (pss_one (ps_ret pe_bl)) pss_nil)))))))))))))))
    (pss_one (ps_ret (pe_cmpR (op_eqD hr.units) (pe_meth0 (pv 2) T.c_Buffer T.M_Buffer_entries (ok_Buffer_entries T) (hr.mono (by decide)) T.B_Buffer_entries .nil pass0) (pv 3) (nomark _))))))))), ?_⟩
    refine ⟨_, rfl, sp, ns, rfl, hS, hlen, fun H1 tp ts e1 tp0 tpL dg tl => ?_⟩
    refine fun b dx nb ndx nbd => ?_
    refine ⟨b, dx, rfl, upd_same, fun H2 l s2 hB => ⟨rfl, Nat.zero_le _, fun r hr => ?_⟩⟩
    have ntp : tp ≠ b := fun z => by rw [z, nb] at tpL; cases tpL
    have ntd : tp ≠ dx := fun z => by rw [z, ndx] at tpL; cases tpL
    have L0 : LB a.C_Buffer (upd H2 r (.lst [])) b dx l r tp ts [] [] := by
      have e3 := Same.new (o := .lst []) hr
      refine ⟨⟨e3 _ _ hB.ins, e3 _ _ hB.lst⟩, .nil _, upd_same, .nil _, e3 _ _ (s2 _ _ ntp ?_), Nat.zero_le _⟩
      rw [upd_ne ntp, upd_ne ntd]
      exact tpL
    generalize upd H2 r (.lst []) = H3 at L0 ⊢
    -- if buffer.entries() != []
    refine ⟨_, rfl, b, dx, _, rfl, L0.buf.ins, rfl, b, dx, l, [], rfl, L0.buf, fun t ht => ⟨Nat.zero_le _, fun u hu => ?_⟩⟩
    have s1 : Sh 1 (.list []) := sh_lst fun d hd => absurd hd List.not_mem_nil
    have eTU := (Same.new (o := .lst []) ht).trans (Same.new (o := .lst []) hu)
    refine ⟨_, _, .lst (SqL.of ((Same.new hu) _ _ upd_same)) .nil, .lst (SqL.of upd_same) .nil, s1.ok, s1.ok, _, rfl, ?_⟩
    refine ifF (by rw [s1.refl]; rfl) ?_
    have L1 := L0.same eTU
    generalize upd (upd H3 t (.lst [])) u (.lst []) = H4 at L1 ⊢
    refine ⟨_, rfl, tp, _, rfl, .inl (SqL.of L1.tape), _, _, rfl, rfl, ⟨by decide, by decide⟩, _, _, rfl, ?_⟩
    have lb : (0 : Int) ≤ ((ts.map V.int).length : Int) / 2 := Int.ediv_nonneg (Int.natCast_nonneg _) (by decide)
    refine ⟨_, rfl, ?_, ?_, for_range (lo := 0) (n := (if ((ts.map V.int).length : Int) / 2 < 60 then ((ts.map V.int).length : Int) / 2 else 60).toNat)
      (fun i σ H' => ∃ (l r : Addr) (x4 x5 x6 x7 x8 x9 x10 x11 x12 x13 x14 x15 x16 x17 : Option V) (zs ys : List (Addr × En)), σ = [some (.ref sp), some (.ref tp), some (.ref b), some (.ref r), x4, x5, x6, x7, x8, x9, x10, x11, x12, x13, x14, x15, x16, x17] ∧
        LB a.C_Buffer H' b dx l r tp ts zs ys ∧ ys.map Prod.snd = zs.map Prod.snd)
      ⟨l, r, none, none, none, none, none, none, none, none, none, none, none, none, none, none, [], [], rfl, L1, rfl⟩ ?_ ?_⟩
    · split <;> omega
    · split <;> omega
    · rintro i σ H5 hi ⟨l, r, x4, x5, x6, x7, x8, x9, x10, x11, x12, x13, x14, x15, x16, x17, zs, ys, rfl, L, eq⟩
      have i60 : i < 60 := by split at hi <;> omega
      -- number, pick, space, page
      refine ⟨_, rfl, _, rfl, _, _, rfl, rfl, .inl ⟨by decide, by decide⟩, tp, ts, _, rfl, SqL.of L.tape, by omega, dg, fun num n0 n1 => ?_⟩
      refine ⟨_, rfl, _, rfl, _, _, rfl, rfl, .inl ⟨by decide, by decide⟩, _, _, rfl, rfl, tp, ts, _, rfl, SqL.of L.tape, by omega, dg, fun pick p0 p1 => ?_⟩
      refine ⟨_, rfl, _, _, rfl, rfl, (by show (0 : Int) < 2; decide), (by show 4 ≤ sizeLine; decide), fun pl hpl => ?_⟩
      obtain ⟨page, hpage⟩ : ∃ pg : Int, atI [V.int 0, V.int 1, V.int 2, V.int 7] (pick / 2 % 4) = some (.int pg) := by
        have a0 := Int.emod_nonneg (pick / 2) (by decide : (4 : Int) ≠ 0)
        have a1 := Int.emod_lt_of_pos (pick / 2) (by decide : (0 : Int) < 4)
        rcases (by omega : pick / 2 % 4 = 0 ∨ pick / 2 % 4 = 1 ∨ pick / 2 % 4 = 2 ∨ pick / 2 % 4 = 3) with z | z | z | z
        · exact ⟨_, at_of (j := 0) z rfl⟩
        · exact ⟨_, at_of (j := 1) z rfl⟩
        · exact ⟨_, at_of (j := 2) z rfl⟩
        · exact ⟨_, at_of (j := 3) z rfl⟩
      refine ⟨_, rfl, _, _, rfl, rfl, ⟨by decide, by decide⟩, _, _, rfl, rfl, (by show (0 : Int) < 4; decide), pl, _, _, _, rfl, rfl, SqL.of upd_same, hpage, ?_⟩
      have L6 := L.same (Same.new (o := .lst [.int 0, .int 1, .int 2, .int 7]) hpl)
      generalize upd H5 pl (.lst [.int 0, .int 1, .int 2, .int 7]) = H6 at L6 ⊢
      refine ⟨fun σ' H' => ∃ (l r : Addr) (x9 x10 x11 x12 x13 x14 x15 x16 x17 : Option V) (zs ys : List (Addr × En)), σ' = [some (.ref sp), some (.ref tp), some (.ref b), some (.ref r), some (.int (0 + (i : Int))), some (.int num), some (.int pick), some (.int (pick % 2)), some (.int page), x9, x10, x11, x12, x13, x14, x15, x16, x17] ∧
        LB a.C_Buffer H' b dx l r tp ts zs ys ∧ ys.map Prod.snd = zs.map Prod.snd, ?_, ?_⟩
      · refine ⟨_, rfl, _, _, rfl, rfl, (by show (0 : Int) < 3; decide), _, _, rfl, rfl, _, rfl, ite2 (fun c => ?_) (fun c => ?_)⟩
        · -- put
          refine ⟨_, rfl, _, _, rfl, rfl, ⟨by decide, by decide⟩, _, rfl, _, _, rfl, rfl, ⟨by decide, by decide⟩, _, _, rfl, Int.ediv_nonneg n0 (by decide), fun y x H7 e7 hy => ?_⟩
          have L7 := L6.same e7
          refine ⟨_, rfl, b, dx, _, rfl, L7.buf.ins, rfl, _, rfl, _, rfl, _, rfl, b, dx, l, zs, _, _, y, x, rfl, L7.buf, L7.ez, L7.len, hy, fun H8 l8 zs8 s8 hB8 hE8 em8 => ?_⟩
          have len8 : zs8.length ≤ 2 := by
            have := putM_len (pick % 2) page x (es := zs.map Prod.snd) (by rw [List.length_map]; exact L7.len)
            rw [← em8, List.length_map] at this
            exact this
          have L8 := L7.but s8 hB8 hE8 len8
          have hy8 : Dp K H8 y (wD x) := dp_keep (s8.kt L7.buf.ins) (by cases x <;> simp [wD, noL, noLs]) hy
          have lenY : ys.length ≤ 2 := by
            have := congrArg List.length eq
            rw [List.length_map, List.length_map] at this
            rw [this]
            exact L7.len
          refine ⟨_, rfl, _, rfl, _, rfl, _, rfl, r, ys, _, _, y, x, rfl, SqL.of L8.rows, L8.ey, lenY, hy8, fun H9 r9 ys9 e9 hr9 hE9 em9 => ?_⟩
          exact ⟨l8, r9, _, _, _, _, _, _, _, _, _, zs8, ys9, rfl, (L8.same e9).rows2 hr9 hE9, by rw [em9, em8, eq]⟩
        · -- drop
          have k0 := Int.emod_nonneg (num / 3) (by decide : (5 : Int) ≠ 0)
          have k1 := Int.emod_lt_of_pos (num / 3) (by decide : (0 : Int) < 5)
          refine ⟨_, rfl, _, _, rfl, rfl, ⟨by decide, by decide⟩, _, _, rfl, rfl, (by show (0 : Int) < 5; decide), _, rfl, by omega, by omega, fun D hD => ?_⟩
          refine lc_range (lo := 0) (n := (num / 3 % 5).toNat) (fun j H' => ∃ (G : Hp) (qs : List (Addr × (Int × Int))), H' = upd G D (.lst (qs.map bV)) ∧ Same H6 G ∧ G D = none ∧ PAll G qs ∧ qs.length = j ∧ j ≤ 5)
            ⟨H6, [], rfl, Same.refl H6, hD, fun _ h => absurd h List.not_mem_nil, rfl, Nat.zero_le _⟩ ?_ ?_
          · rintro j H7 hj ⟨G, qs, rfl, eS, gD, hq, el, j5⟩
            refine ⟨rfl, _, rfl, _, _, rfl, rfl, (by show (0 : Int) < 2; decide), (by show 4 ≤ sizeLine; decide), fun l4 h4 => ?_⟩
            obtain ⟨pg2, hpg2⟩ : ∃ pg : Int, atI [V.int 0, V.int 1, V.int 2, V.int 7] ((pick / 8 + (0 + (j : Int))) % 4) = some (.int pg) := by
              have a0 := Int.emod_nonneg (pick / 8 + (0 + (j : Int))) (by decide : (4 : Int) ≠ 0)
              have a1 := Int.emod_lt_of_pos (pick / 8 + (0 + (j : Int))) (by decide : (0 : Int) < 4)
              rcases (by omega : (pick / 8 + (0 + (j : Int))) % 4 = 0 ∨ (pick / 8 + (0 + (j : Int))) % 4 = 1 ∨ (pick / 8 + (0 + (j : Int))) % 4 = 2 ∨ (pick / 8 + (0 + (j : Int))) % 4 = 3) with z | z | z | z
              · exact ⟨_, at_of (j := 0) z rfl⟩
              · exact ⟨_, at_of (j := 1) z rfl⟩
              · exact ⟨_, at_of (j := 2) z rfl⟩
              · exact ⟨_, at_of (j := 3) z rfl⟩
            refine ⟨_, rfl, _, _, rfl, rfl, ⟨by decide, by decide⟩, _, rfl, _, _, rfl, rfl, _, _, rfl, rfl, (by show (0 : Int) < 4; decide), l4, _, _, _, rfl, rfl, SqL.of upd_same, hpg2, (by show 2 ≤ sizeLine; decide), fun t ht => ?_⟩
            obtain ⟨c1, g1, gD1⟩ := new_under (o := .lst [.int 0, .int 1, .int 2, .int 7]) gD h4
            have ht2 : upd (upd G l4 (.lst [.int 0, .int 1, .int 2, .int 7])) D (.lst (qs.map bV)) t = none := by rw [← c1]; exact ht
            obtain ⟨c2, g2, gD2⟩ := new_under (o := .tup [.int ((0 + (j : Int)) % 2), .int pg2]) gD1 ht2
            have eT : upd (upd (upd G D (.lst (qs.map bV))) l4 (.lst [.int 0, .int 1, .int 2, .int 7])) t (.tup [.int ((0 + (j : Int)) % 2), .int pg2]) =
              upd (upd (upd G l4 (.lst [.int 0, .int 1, .int 2, .int 7])) t (.tup [.int ((0 + (j : Int)) % 2), .int pg2])) D (.lst (qs.map bV)) := by rw [c1, c2]
            have eG : Same G (upd (upd G l4 (.lst [.int 0, .int 1, .int 2, .int 7])) t (.tup [.int ((0 + (j : Int)) % 2), .int pg2])) := (Same.new g1).trans (Same.new g2)
            refine ⟨qs.map bV, ?_, ?_, _, qs ++ [(t, ((0 + (j : Int)) % 2, pg2))], ?_, eS.trans eG, gD2, ?_, ?_, by omega⟩
            · show upd (upd (upd G D _) l4 (.lst [.int 0, .int 1, .int 2, .int 7])) t (.tup [.int ((0 + (j : Int)) % 2), .int pg2]) D = _
              rw [eT, upd_same]
            · rw [List.length_map, el]
              exact Nat.lt_of_le_of_lt j5 (by decide)
            · show upd (upd (upd (upd G D _) l4 (.lst [.int 0, .int 1, .int 2, .int 7])) t (.tup [.int ((0 + (j : Int)) % 2), .int pg2])) D _ = _
              rw [eT, upd_upd, List.map_append]
              rfl
            · intro z hz
              rcases List.mem_append.mp hz with hz | hz
              · exact eG _ _ (hq z hz)
              · rw [List.mem_singleton.mp hz]
                exact upd_same
            · rw [List.length_append, List.length_singleton, el]
          · rintro H7 ⟨G, qs, rfl, eS, gD, hq, el, j5⟩
            have e7 := eS.trans (Same.new (o := .lst (qs.map bV)) gD)
            have L7 := L6.same e7
            have hq7 : PAll (upd G D (.lst (qs.map bV))) qs := hq.kt (KT.new gD)
            have hD7 : upd G D (.lst (qs.map bV)) D = some (.lst (qs.map bV)) := upd_same
            generalize upd G D (.lst (qs.map bV)) = H7 at L7 hq7 hD7 ⊢
            clear hq gD eS e7
            -- passed = list(pairs)
            refine ⟨_, rfl, D, _, rfl, .inl (SqL.of hD7), fun pa hpa => ?_⟩
            have eP := Same.new (o := .lst (qs.map bV)) hpa
            have L8 := L7.same eP
            have hq8 := hq7.kt (KT.of eP)
            have hD8 := eP _ _ hD7
            have hP8 : upd H7 pa (.lst (qs.map bV)) pa = some (.lst (qs.map bV)) := upd_same
            generalize upd H7 pa (.lst (qs.map bV)) = H8 at L8 hq8 hD8 hP8 ⊢
            clear eP hpa L7 hq7 hD7
            refine ⟨fun σ' H' => σ' = [some (.ref sp), some (.ref tp), some (.ref b), some (.ref r), some (.int (0 + (i : Int))), some (.int num), some (.int pick), some (.int (pick % 2)), some (.int page), x9, some (.ref D), some (.ref pa), x12, x13, x14, x15, x16, x17] ∧
              SameBut b H8 H' ∧ ∃ l', BufAt a.C_Buffer H' b dx l' ((zs.filter fun z => keep (qs.map Prod.snd) z.2).map aV), ?_, ?_⟩
            · refine ⟨_, rfl, _, _, rfl, rfl, (by show (0 : Int) < 3; decide), rfl, _, rfl, ite2 (fun c => ?_) (fun c => ?_)⟩
              · refine ⟨_, rfl, b, dx, _, rfl, L8.buf.ins, rfl, _, rfl, D, _, rfl, .inl ⟨SqL.of hD8, fun tq htq => ?_⟩⟩
                have eQ := Same.new (o := .tup (qs.map bV)) htq
                have L9 := L8.same eQ
                refine ⟨b, dx, l, zs, .ref tq, qs.map Prod.snd, rfl, L9.buf, L9.ez, Nat.le_trans L9.len (by decide), .inr (.tup (SqT.of upd_same) (hq8.kt (KT.of eQ)).dp), fun H9 l9 s9 _ hB9 => ?_⟩
                exact ⟨rfl, (Same.but eQ).trans s9, l9, hB9⟩
              · refine ⟨_, rfl, b, dx, _, rfl, L8.buf.ins, rfl, _, rfl, b, dx, l, zs, .ref pa, qs.map Prod.snd, rfl, L8.buf, L8.ez, Nat.le_trans L8.len (by decide), .inl (.lst (SqL.of hP8) hq8.dp), fun H9 l9 s9 _ hB9 => ?_⟩
                exact ⟨rfl, s9, l9, hB9⟩
            · rintro σ9 H9 ⟨rfl, s9, l9, hB9⟩
              have kt9 := s9.kt L8.buf.ins
              have hq9 := hq8.kt kt9
              have hD9 := s9 _ _ (ne_of hD8 L8.buf.ins (fun z => nomatch z)) hD8
              have hP9 := s9 _ _ (ne_of hP8 L8.buf.ins (fun z => nomatch z)) hP8
              have L9 := L8.but s9 hB9 ((L8.ez.kt kt9).filter _) (Nat.le_trans (List.length_filter_le _ _) L8.len)
              refine ⟨_, rfl, _, rfl, _, _, .lst (SqL.of hP9) hq9.dp, .lst (SqL.of hD9) hq9.dp, (shPs _).ok, (shPs _).ok, _, rfl, ?_⟩
              refine ifF (by rw [(shPs _).refl]; rfl) ?_
              -- rows = [row for row in rows if row[:2] not in pairs]
              refine ⟨_, rfl, r, rfl, ⟨_, SqL.of L9.rows⟩, fun D2 hD2 => ?_⟩
              refine lc_list (K := K) (a := r) (xs := ys.map aV) (fun j H' => ∃ G, H' = upd G D2 (.lst (((ys.take j).filter fun z => keep (qs.map Prod.snd) z.2).map aV)) ∧ Same H9 G ∧ G D2 = none)
                ⟨H9, rfl, Same.refl H9, hD2⟩ (fun j H' _ ⟨G, e, eS, gD⟩ => by rw [e]; exact SqL.of ((Same.new gD) _ _ (eS _ _ L9.rows))) ?_ ?_
              · rintro j x H' hx ⟨G, rfl, eS, gD⟩
                obtain ⟨z, hz, rfl⟩ := map_get hx
                have hzz := eS _ _ (L9.ey z (mem_of_get hz))
                refine ⟨rfl, _, rfl, 2, rfl, z.1, eV z.2, rfl, SqT.of ((Same.new gD) _ _ hzz), (fun h => absurd h.2 (by show ¬ (2 : Nat) = 4; decide)), fun _ t ht => ?_⟩
                obtain ⟨eC, gt, gD2⟩ := new_under (o := .tup [.int z.2.s, .int z.2.p]) gD ht
                have eG : Same H9 (upd G t (.tup [.int z.2.s, .int z.2.p])) := eS.trans (Same.new gt)
                have eA : Same H9 (upd (upd G t (.tup [.int z.2.s, .int z.2.p])) D2 (.lst (((ys.take j).filter fun z => keep (qs.map Prod.snd) z.2).map aV))) := eG.trans (Same.new gD2)
                refine ⟨_, rfl, pD (z.2.s, z.2.p), (qs.map Prod.snd).map pD, ?_, ?_, (shP _).ok, (shPs _).ok, _, rfl, ?_⟩
                · exact .tup (SqT.of upd_same) (.cons (.int _) (.cons (.int _) .nil))
                · refine .inl ?_
                  show Dp K (upd (upd G D2 _) t (.tup [.int z.2.s, .int z.2.p])) _ _
                  rw [eC]
                  exact dp_mono eA (.lst (SqL.of hD9) hq9.dp)
                · have ek := any_pD (qs.map Prod.snd) z.2
                  refine ite2 (fun c => ?_) (fun c => ?_)
                  · refine ⟨_, rfl, ((ys.take j).filter fun z => keep (qs.map Prod.snd) z.2).map aV, ?_, ?_, upd G t (.tup [.int z.2.s, .int z.2.p]), ?_, eG, gD2⟩
                    · show upd (upd G D2 _) t (.tup [.int z.2.s, .int z.2.p]) D2 = _
                      rw [eC, upd_same]
                    · rw [List.length_map]
                      refine Nat.lt_of_le_of_lt (Nat.le_trans (List.length_filter_le _ _) (by rw [List.length_take]; exact Nat.le_trans (Nat.min_le_right _ _) (lenY ys zs eq L9 L8.len))) (by decide : 2 < sizeLine)
                    · rw [ek] at c
                      show upd (upd (upd G D2 _) t (.tup [.int z.2.s, .int z.2.p])) D2 _ = _
                      rw [eC, upd_upd, take_snoc hz, List.filter_append, List.map_append, List.filter_cons, if_pos c]
                      rfl
                  · refine ⟨upd G t (.tup [.int z.2.s, .int z.2.p]), ?_, eG, gD2⟩
                    rw [ek] at c
                    show upd (upd G D2 _) t (.tup [.int z.2.s, .int z.2.p]) = _
                    rw [eC, take_snoc hz, List.filter_append, List.filter_cons, if_neg c, List.filter_nil, List.append_nil]
              · rintro H' ⟨G, rfl, eS, gD⟩
                rw [List.length_map, List.take_length]
                have L10 := (L9.same (eS.trans (Same.new (o := .lst ((ys.filter fun z => keep (qs.map Prod.snd) z.2).map aV)) gD))).rows2 (r2 := D2) (ys2 := ys.filter fun z => keep (qs.map Prod.snd) z.2) upd_same ((L9.ey.kt (KT.of (eS.trans (Same.new gD)))).filter _)
                exact ⟨l9, D2, _, _, _, _, _, _, _, _, _, _, _, rfl, L10, by rw [filter_snd, filter_snd, eq]⟩
      · rintro σ7 H7 ⟨l, r, x9, x10, x11, x12, x13, x14, x15, x16, x17, zs, ys, rfl, L, eq⟩
        refine ⟨_, rfl, b, dx, _, rfl, L.buf.ins, rfl, b, dx, l, _, rfl, L.buf, fun t ht => ?_⟩
        have L8 := L.same (Same.new (o := .lst (zs.map aV)) ht)
        have tT : upd H7 t (.lst (zs.map aV)) t = some (.lst (zs.map aV)) := upd_same
        refine ⟨_, rfl, _, _, _, _, _, rfl, .ty _, .base (.lst tT), (kit_lst (.list [])), _, rfl, _, rfl, _, rfl, _, _, .lst (SqL.of tT) L8.ez.dp, .lst (SqL.of L8.rows) L8.ey.dp, (shEs _).ok, (shEs _).ok, _, rfl, ?_⟩
        refine ifF (by rw [eq, (shEs _).refl]; rfl) ⟨_, rfl, .inl ⟨rfl, _, SqL.of tT⟩, (by show 4 ≤ sizeLine; decide), fun t4 ht4 => ⟨t, _, _, rfl, rfl, (Same.new ht4) _ _ tT, ?_, ?_⟩⟩
        · rw [List.length_map]
          exact Nat.lt_of_le_of_lt L.len (by decide)
        have e9 := Same.put (o := .lst (zs.map aV ++ [.ref t4])) ((Same.new (o := .lst (zs.map aV)) ht).trans (Same.new (o := .tup [.int 0, .int 0, .int 0, .bl true]) ht4)) ht
        have L9 := L.same e9
        clear L8 tT
        generalize upd (upd (upd H7 t (.lst (zs.map aV))) t4 (.tup [.int 0, .int 0, .int 0, .bl true])) t (.lst (zs.map aV ++ [.ref t4])) = H9 at L9 ⊢
        refine ⟨(by show 2 ≤ sizeLine; decide), fun wl hwl => ⟨wl, rfl, ⟨_, SqL.of upd_same⟩, ?_⟩⟩
        have L10 := L9.same (Same.new (o := .lst [.bl false, .bl true]) hwl)
        refine for_list (K := K) (a := wl) (xs := [.bl false, .bl true]) (fun j σ' H' => ∃ x13 x14 x15, σ' = [some (.ref sp), some (.ref tp), some (.ref b), some (.ref r), some (.int (0 + (i : Int))), some (.int num), some (.int pick), some (.int (pick % 2)), some (.int page), x9, x10, x11, some (.ref t), x13, x14, x15, x16, x17] ∧
          LB a.C_Buffer H' b dx l r tp ts zs ys ∧ H' wl = some (.lst [.bl false, .bl true])) ⟨_, _, _, rfl, L10, upd_same⟩ (fun j σ' H' _ ⟨_, _, _, _, _, h⟩ => SqL.of h) ?_ ?_
        · rintro j x σ' H' hx ⟨x13, x14, x15, rfl, LL, hw⟩
          obtain ⟨wr, rfl⟩ : ∃ wr, x = V.bl wr := by
            match j, hx with
            | 0, hx => exact ⟨false, (Option.some.inj hx).symm⟩
            | 1, hx => exact ⟨true, (Option.some.inj hx).symm⟩
            | j + 2, hx => simp at hx
          refine ⟨_, rfl, _, rfl, _, rfl, _, rfl, r, ys, _, _, wr, rfl, LL.rows, LL.ey, fun H11 e11 => ?_⟩
          have L11 := LL.same e11
          refine ⟨_, rfl, b, dx, _, rfl, L11.buf.ins, rfl, _, rfl, _, rfl, _, rfl, b, dx, l, zs, _, _, wr, rfl, L11.buf, L11.ez, fun H12 e12 => ?_⟩
          have L12 := L11.same e12
          have hw12 := e12 _ _ (e11 _ _ hw)
          rw [eq]
          cases frameM (pick % 2) page wr (zs.map Prod.snd) with
          | none =>
            refine ⟨_, rfl, rfl, _, rfl, rfl, rfl, _, rfl, ?_⟩
            exact iteF ⟨_, rfl, rfl, _, rfl, iteF (iteF ⟨_, _, _, rfl, L12, hw12⟩)⟩
          | some f =>
            refine ⟨_, rfl, rfl, _, rfl, rfl, rfl, _, rfl, ?_⟩
            refine iteF ⟨_, rfl, rfl, _, rfl, iteT ⟨_, rfl, _, rfl, rfl, _, rfl, ifF (by simp) ⟨_, _, _, rfl, L12, hw12⟩⟩⟩
        · rintro σ' H' ⟨x13, x14, x15, rfl, LL, hw⟩
          exact ⟨l, r, _, _, _, _, _, _, _, _, _, _, _, _, _, _, zs, ys, rfl, LL, eq⟩
    · rintro σ H5 ⟨l, r, x4, x5, x6, x7, x8, x9, x10, x11, x12, x13, x14, x15, x16, x17, zs, ys, rfl, L, eq⟩
      refine ⟨_, rfl, b, dx, _, rfl, L.buf.ins, rfl, b, dx, l, _, rfl, L.buf, fun t ht => ?_⟩
      have L5 := L.same (Same.new (o := .lst (zs.map aV)) ht)
      refine ⟨_, rfl, _, _, .lst (SqL.of upd_same) L5.ez.dp, .lst (SqL.of L5.rows) L5.ey.dp, (shEs _).ok, (shEs _).ok, ?_⟩
      rw [eq, (shEs _).refl]
      exact q _
end
theorem all_mk {l : PySem.W.OpenLaw} {w : World} {K : PySem.W.Frag} {h : Heap} {mg : Str → Option Value} {fa : Addr} (X : K.In h) (G : h.Ns mainGlobals mg) (hfa : mg "law" = some (.ref fa))
    {C_Buffer f_leads_to_frame f_Buffer_init f_Buffer_put f_Buffer_frame_for f_Buffer_drop f_Buffer_entries f__law_tape f__law_at f__law_word f__law_put f__law_frame f_law : Addr}
    {od_leads_to_frame an_leads_to_frame : Option Addr} {sl_leads_to_frame : Array (Option Value)} {oc_leads_to_frame kV_leads_to_frame dc_leads_to_frame pm_leads_to_frame cd_leads_to_frame ct_leads_to_frame : Value}
    {od_Buffer_init an_Buffer_init : Option Addr} {sl_Buffer_init : Array (Option Value)} {oc_Buffer_init kV_Buffer_init dc_Buffer_init pm_Buffer_init cd_Buffer_init ct_Buffer_init : Value}
    {od_Buffer_put an_Buffer_put : Option Addr} {sl_Buffer_put : Array (Option Value)} {oc_Buffer_put kV_Buffer_put dc_Buffer_put pm_Buffer_put cd_Buffer_put ct_Buffer_put : Value}
    {od_Buffer_frame_for an_Buffer_frame_for : Option Addr} {sl_Buffer_frame_for : Array (Option Value)} {oc_Buffer_frame_for kV_Buffer_frame_for dc_Buffer_frame_for pm_Buffer_frame_for cd_Buffer_frame_for ct_Buffer_frame_for : Value}
    {od_Buffer_drop an_Buffer_drop : Option Addr} {sl_Buffer_drop : Array (Option Value)} {oc_Buffer_drop kV_Buffer_drop dc_Buffer_drop pm_Buffer_drop cd_Buffer_drop ct_Buffer_drop : Value}
    {od_Buffer_entries an_Buffer_entries : Option Addr} {sl_Buffer_entries : Array (Option Value)} {oc_Buffer_entries kV_Buffer_entries dc_Buffer_entries pm_Buffer_entries cd_Buffer_entries ct_Buffer_entries : Value}
    {od__law_tape an__law_tape : Option Addr} {sl__law_tape : Array (Option Value)} {oc__law_tape kV__law_tape dc__law_tape pm__law_tape cd__law_tape ct__law_tape : Value}
    {od__law_at an__law_at : Option Addr} {sl__law_at : Array (Option Value)} {oc__law_at kV__law_at dc__law_at pm__law_at cd__law_at ct__law_at : Value}
    {od__law_word an__law_word : Option Addr} {sl__law_word : Array (Option Value)} {oc__law_word kV__law_word dc__law_word pm__law_word cd__law_word ct__law_word : Value}
    {od__law_put an__law_put : Option Addr} {sl__law_put : Array (Option Value)} {oc__law_put kV__law_put dc__law_put pm__law_put cd__law_put ct__law_put : Value}
    {od__law_frame an__law_frame : Option Addr} {sl__law_frame : Array (Option Value)} {oc__law_frame kV__law_frame dc__law_frame pm__law_frame cd__law_frame ct__law_frame : Value}
    {od_law an_law : Option Addr} {sl_law : Array (Option Value)} {oc_law kV_law dc_law pm_law cd_law ct_law : Value}
    {t_MOST_ENTRIES : Tok}
    (g_Buffer : PySem.W.nsIn K mainGlobals "Buffer" = some (some (.ref C_Buffer)))
    (a_leads_to_frame : PySem.W.nsIn K mainGlobals "leads_to_frame" = some (some (.ref f_leads_to_frame)))
    (l_leads_to_frame : K.lookup f_leads_to_frame = some ⟨oc_leads_to_frame, od_leads_to_frame, .func (PySem.W.fnOf "leads_to_frame" "leads_to_frame" (defArgs s_leads_to_frame) (defBody s_leads_to_frame) (defScope s_leads_to_frame) .none kV_leads_to_frame dc_leads_to_frame pm_leads_to_frame an_leads_to_frame cd_leads_to_frame ct_leads_to_frame), sl_leads_to_frame⟩)
    (c_leads_to_frame : PySem.W.codeIn K cd_leads_to_frame "leads_to_frame" = true)
    (k_leads_to_frame : PySem.W.keepIn K (.ref f_leads_to_frame) = true)
    (a_Buffer_init : PySem.W.findIn K (.ref C_Buffer) "__init__" = some (some (.ref f_Buffer_init)))
    (i_Buffer_init : PySem.W.isFn K (.ref f_Buffer_init) = true)
    (l_Buffer_init : K.lookup f_Buffer_init = some ⟨oc_Buffer_init, od_Buffer_init, .func (PySem.W.fnOf "__init__" "Buffer.__init__" (defArgs s_Buffer_init) (defBody s_Buffer_init) (defScope s_Buffer_init) .none kV_Buffer_init dc_Buffer_init pm_Buffer_init an_Buffer_init cd_Buffer_init ct_Buffer_init), sl_Buffer_init⟩)
    (c_Buffer_init : PySem.W.codeIn K cd_Buffer_init "Buffer.__init__" = true)
    (k_Buffer_init : PySem.W.keepIn K (.ref f_Buffer_init) = true)
    (a_Buffer_put : PySem.W.findIn K (.ref C_Buffer) "put" = some (some (.ref f_Buffer_put)))
    (i_Buffer_put : PySem.W.isFn K (.ref f_Buffer_put) = true)
    (l_Buffer_put : K.lookup f_Buffer_put = some ⟨oc_Buffer_put, od_Buffer_put, .func (PySem.W.fnOf "put" "Buffer.put" (defArgs s_Buffer_put) (defBody s_Buffer_put) (defScope s_Buffer_put) .none kV_Buffer_put dc_Buffer_put pm_Buffer_put an_Buffer_put cd_Buffer_put ct_Buffer_put), sl_Buffer_put⟩)
    (c_Buffer_put : PySem.W.codeIn K cd_Buffer_put "Buffer.put" = true)
    (k_Buffer_put : PySem.W.keepIn K (.ref f_Buffer_put) = true)
    (a_Buffer_frame_for : PySem.W.findIn K (.ref C_Buffer) "frame_for" = some (some (.ref f_Buffer_frame_for)))
    (i_Buffer_frame_for : PySem.W.isFn K (.ref f_Buffer_frame_for) = true)
    (l_Buffer_frame_for : K.lookup f_Buffer_frame_for = some ⟨oc_Buffer_frame_for, od_Buffer_frame_for, .func (PySem.W.fnOf "frame_for" "Buffer.frame_for" (defArgs s_Buffer_frame_for) (defBody s_Buffer_frame_for) (defScope s_Buffer_frame_for) .none kV_Buffer_frame_for dc_Buffer_frame_for pm_Buffer_frame_for an_Buffer_frame_for cd_Buffer_frame_for ct_Buffer_frame_for), sl_Buffer_frame_for⟩)
    (c_Buffer_frame_for : PySem.W.codeIn K cd_Buffer_frame_for "Buffer.frame_for" = true)
    (k_Buffer_frame_for : PySem.W.keepIn K (.ref f_Buffer_frame_for) = true)
    (a_Buffer_drop : PySem.W.findIn K (.ref C_Buffer) "drop" = some (some (.ref f_Buffer_drop)))
    (i_Buffer_drop : PySem.W.isFn K (.ref f_Buffer_drop) = true)
    (l_Buffer_drop : K.lookup f_Buffer_drop = some ⟨oc_Buffer_drop, od_Buffer_drop, .func (PySem.W.fnOf "drop" "Buffer.drop" (defArgs s_Buffer_drop) (defBody s_Buffer_drop) (defScope s_Buffer_drop) .none kV_Buffer_drop dc_Buffer_drop pm_Buffer_drop an_Buffer_drop cd_Buffer_drop ct_Buffer_drop), sl_Buffer_drop⟩)
    (c_Buffer_drop : PySem.W.codeIn K cd_Buffer_drop "Buffer.drop" = true)
    (k_Buffer_drop : PySem.W.keepIn K (.ref f_Buffer_drop) = true)
    (a_Buffer_entries : PySem.W.findIn K (.ref C_Buffer) "entries" = some (some (.ref f_Buffer_entries)))
    (i_Buffer_entries : PySem.W.isFn K (.ref f_Buffer_entries) = true)
    (l_Buffer_entries : K.lookup f_Buffer_entries = some ⟨oc_Buffer_entries, od_Buffer_entries, .func (PySem.W.fnOf "entries" "Buffer.entries" (defArgs s_Buffer_entries) (defBody s_Buffer_entries) (defScope s_Buffer_entries) .none kV_Buffer_entries dc_Buffer_entries pm_Buffer_entries an_Buffer_entries cd_Buffer_entries ct_Buffer_entries), sl_Buffer_entries⟩)
    (c_Buffer_entries : PySem.W.codeIn K cd_Buffer_entries "Buffer.entries" = true)
    (k_Buffer_entries : PySem.W.keepIn K (.ref f_Buffer_entries) = true)
    (a__law_tape : PySem.W.nsIn K mainGlobals "_law_tape" = some (some (.ref f__law_tape)))
    (l__law_tape : K.lookup f__law_tape = some ⟨oc__law_tape, od__law_tape, .func (PySem.W.fnOf "_law_tape" "_law_tape" (defArgs s__law_tape) (defBody s__law_tape) (defScope s__law_tape) .none kV__law_tape dc__law_tape pm__law_tape an__law_tape cd__law_tape ct__law_tape), sl__law_tape⟩)
    (c__law_tape : PySem.W.codeIn K cd__law_tape "_law_tape" = true)
    (k__law_tape : PySem.W.keepIn K (.ref f__law_tape) = true)
    (a__law_at : PySem.W.nsIn K mainGlobals "_law_at" = some (some (.ref f__law_at)))
    (l__law_at : K.lookup f__law_at = some ⟨oc__law_at, od__law_at, .func (PySem.W.fnOf "_law_at" "_law_at" (defArgs s__law_at) (defBody s__law_at) (defScope s__law_at) .none kV__law_at dc__law_at pm__law_at an__law_at cd__law_at ct__law_at), sl__law_at⟩)
    (c__law_at : PySem.W.codeIn K cd__law_at "_law_at" = true)
    (k__law_at : PySem.W.keepIn K (.ref f__law_at) = true)
    (a__law_word : PySem.W.nsIn K mainGlobals "_law_word" = some (some (.ref f__law_word)))
    (l__law_word : K.lookup f__law_word = some ⟨oc__law_word, od__law_word, .func (PySem.W.fnOf "_law_word" "_law_word" (defArgs s__law_word) (defBody s__law_word) (defScope s__law_word) .none kV__law_word dc__law_word pm__law_word an__law_word cd__law_word ct__law_word), sl__law_word⟩)
    (c__law_word : PySem.W.codeIn K cd__law_word "_law_word" = true)
    (k__law_word : PySem.W.keepIn K (.ref f__law_word) = true)
    (a__law_put : PySem.W.nsIn K mainGlobals "_law_put" = some (some (.ref f__law_put)))
    (l__law_put : K.lookup f__law_put = some ⟨oc__law_put, od__law_put, .func (PySem.W.fnOf "_law_put" "_law_put" (defArgs s__law_put) (defBody s__law_put) (defScope s__law_put) .none kV__law_put dc__law_put pm__law_put an__law_put cd__law_put ct__law_put), sl__law_put⟩)
    (c__law_put : PySem.W.codeIn K cd__law_put "_law_put" = true)
    (k__law_put : PySem.W.keepIn K (.ref f__law_put) = true)
    (a__law_frame : PySem.W.nsIn K mainGlobals "_law_frame" = some (some (.ref f__law_frame)))
    (l__law_frame : K.lookup f__law_frame = some ⟨oc__law_frame, od__law_frame, .func (PySem.W.fnOf "_law_frame" "_law_frame" (defArgs s__law_frame) (defBody s__law_frame) (defScope s__law_frame) .none kV__law_frame dc__law_frame pm__law_frame an__law_frame cd__law_frame ct__law_frame), sl__law_frame⟩)
    (c__law_frame : PySem.W.codeIn K cd__law_frame "_law_frame" = true)
    (k__law_frame : PySem.W.keepIn K (.ref f__law_frame) = true)
    (a_law : PySem.W.nsIn K mainGlobals "law" = some (some (.ref f_law)))
    (l_law : K.lookup f_law = some ⟨oc_law, od_law, .func (PySem.W.fnOf "law" "law" (defArgs s_law) (defBody s_law) (defScope s_law) .none kV_law dc_law pm_law an_law cd_law ct_law), sl_law⟩)
    (c_law : PySem.W.codeIn K cd_law "law" = true)
    (k_law : PySem.W.keepIn K (.ref f_law) = true)
    (pg_Buffer : PySem.W.plainGet K C_Buffer Str.empty = true)
    (hd_Buffer : PySem.W.hasDictIn K C_Buffer = true)
    (po_Buffer : PySem.W.plainOver K C_Buffer = true)
    (sa_Buffer : PySem.W.findIn K (.ref C_Buffer) "__setattr__" = some (some (.builtin "object.__setattr__")))
    (mk_Buffer : PySem.W.makesIn K C_Buffer = true)
    (kc_Buffer : PySem.W.keepIn K (.ref C_Buffer) = true)
    (n_Buffer__entries : PySem.W.findIn K (.ref C_Buffer) "_entries" = some none)
    (z_MOST_ENTRIES : PySem.W.nsIn K mainGlobals "MOST_ENTRIES" = some (some (.int 2 t_MOST_ENTRIES)))
    (z_isinstance : PySem.W.nsIn K mainGlobals "isinstance" = some none)
    (z_int : PySem.W.nsIn K mainGlobals "int" = some none)
    (z_tuple : PySem.W.nsIn K mainGlobals "tuple" = some none)
    (z_list : PySem.W.nsIn K mainGlobals "list" = some none)
    (z_len : PySem.W.nsIn K mainGlobals "len" = some none)
    (z_range : PySem.W.nsIn K mainGlobals "range" = some none)
    (z_abs : PySem.W.nsIn K mainGlobals "abs" = some none)
    (z_min : PySem.W.nsIn K mainGlobals "min" = some none)
    (z_max : PySem.W.nsIn K mainGlobals "max" = some none)
    : ∃ fd : FuncData, (∀ (s : Shared) (v : Value), BindsTo s fd ⟨[v], []⟩ [("script", v)]) ∧ ∀ base : Heap, K.In base → base.Ns mainGlobals mg → FnOk l.prog w K mg base CX0 9 fa fd ["script"] (spLaw K) := by
  have e := hfa.symm.trans (PySem.W.mg_of X G a_law)
  cases e
  have T : Txt K mg ⟨C_Buffer, f_leads_to_frame, f_Buffer_init, f_Buffer_put, f_Buffer_frame_for, f_Buffer_drop, f_Buffer_entries, f__law_tape, f__law_at, f__law_word, f__law_put, f__law_frame, fa, PySem.W.fnOf "leads_to_frame" "leads_to_frame" (defArgs s_leads_to_frame) (defBody s_leads_to_frame) (defScope s_leads_to_frame) .none kV_leads_to_frame dc_leads_to_frame pm_leads_to_frame an_leads_to_frame cd_leads_to_frame ct_leads_to_frame, PySem.W.fnOf "__init__" "Buffer.__init__" (defArgs s_Buffer_init) (defBody s_Buffer_init) (defScope s_Buffer_init) .none kV_Buffer_init dc_Buffer_init pm_Buffer_init an_Buffer_init cd_Buffer_init ct_Buffer_init, PySem.W.fnOf "put" "Buffer.put" (defArgs s_Buffer_put) (defBody s_Buffer_put) (defScope s_Buffer_put) .none kV_Buffer_put dc_Buffer_put pm_Buffer_put an_Buffer_put cd_Buffer_put ct_Buffer_put, PySem.W.fnOf "frame_for" "Buffer.frame_for" (defArgs s_Buffer_frame_for) (defBody s_Buffer_frame_for) (defScope s_Buffer_frame_for) .none kV_Buffer_frame_for dc_Buffer_frame_for pm_Buffer_frame_for an_Buffer_frame_for cd_Buffer_frame_for ct_Buffer_frame_for, PySem.W.fnOf "drop" "Buffer.drop" (defArgs s_Buffer_drop) (defBody s_Buffer_drop) (defScope s_Buffer_drop) .none kV_Buffer_drop dc_Buffer_drop pm_Buffer_drop an_Buffer_drop cd_Buffer_drop ct_Buffer_drop, PySem.W.fnOf "entries" "Buffer.entries" (defArgs s_Buffer_entries) (defBody s_Buffer_entries) (defScope s_Buffer_entries) .none kV_Buffer_entries dc_Buffer_entries pm_Buffer_entries an_Buffer_entries cd_Buffer_entries ct_Buffer_entries, PySem.W.fnOf "_law_tape" "_law_tape" (defArgs s__law_tape) (defBody s__law_tape) (defScope s__law_tape) .none kV__law_tape dc__law_tape pm__law_tape an__law_tape cd__law_tape ct__law_tape, PySem.W.fnOf "_law_at" "_law_at" (defArgs s__law_at) (defBody s__law_at) (defScope s__law_at) .none kV__law_at dc__law_at pm__law_at an__law_at cd__law_at ct__law_at, PySem.W.fnOf "_law_word" "_law_word" (defArgs s__law_word) (defBody s__law_word) (defScope s__law_word) .none kV__law_word dc__law_word pm__law_word an__law_word cd__law_word ct__law_word, PySem.W.fnOf "_law_put" "_law_put" (defArgs s__law_put) (defBody s__law_put) (defScope s__law_put) .none kV__law_put dc__law_put pm__law_put an__law_put cd__law_put ct__law_put, PySem.W.fnOf "_law_frame" "_law_frame" (defArgs s__law_frame) (defBody s__law_frame) (defScope s__law_frame) .none kV__law_frame dc__law_frame pm__law_frame an__law_frame cd__law_frame ct__law_frame, PySem.W.fnOf "law" "law" (defArgs s_law) (defBody s_law) (defScope s_law) .none kV_law dc_law pm_law an_law cd_law ct_law⟩ := {
    m_Buffer := PySem.W.mg_of X G g_Buffer
    F_leads_to_frame := fun_mk (st := s_leads_to_frame) l_leads_to_frame c_leads_to_frame k_leads_to_frame
    B_leads_to_frame := (fun_mk (st := s_leads_to_frame) l_leads_to_frame c_leads_to_frame k_leads_to_frame).binds (ps := ["word"]) fun _ _ _ _ _ _ us hl => match us, hl with | [_], _ => rfl
    m_leads_to_frame := PySem.W.mg_of X G a_leads_to_frame
    F_Buffer_init := fun_mk (st := s_Buffer_init) l_Buffer_init c_Buffer_init k_Buffer_init
    B_Buffer_init := (fun_mk (st := s_Buffer_init) l_Buffer_init c_Buffer_init k_Buffer_init).binds (ps := ["self"]) fun _ _ _ _ _ _ us hl => match us, hl with | [_], _ => rfl
    F_Buffer_put := fun_mk (st := s_Buffer_put) l_Buffer_put c_Buffer_put k_Buffer_put
    B_Buffer_put := (fun_mk (st := s_Buffer_put) l_Buffer_put c_Buffer_put k_Buffer_put).binds (ps := ["self", "space", "page", "word"]) fun _ _ _ _ _ _ us hl => match us, hl with | [_, _, _, _], _ => rfl
    M_Buffer_put := ⟨a_Buffer_put, i_Buffer_put, k_Buffer_put⟩
    F_Buffer_frame_for := fun_mk (st := s_Buffer_frame_for) l_Buffer_frame_for c_Buffer_frame_for k_Buffer_frame_for
    B_Buffer_frame_for := (fun_mk (st := s_Buffer_frame_for) l_Buffer_frame_for c_Buffer_frame_for k_Buffer_frame_for).binds (ps := ["self", "space", "page", "writing"]) fun _ _ _ _ _ _ us hl => match us, hl with | [_, _, _, _], _ => rfl
    M_Buffer_frame_for := ⟨a_Buffer_frame_for, i_Buffer_frame_for, k_Buffer_frame_for⟩
    F_Buffer_drop := fun_mk (st := s_Buffer_drop) l_Buffer_drop c_Buffer_drop k_Buffer_drop
    B_Buffer_drop := (fun_mk (st := s_Buffer_drop) l_Buffer_drop c_Buffer_drop k_Buffer_drop).binds (ps := ["self", "pairs"]) fun _ _ _ _ _ _ us hl => match us, hl with | [_, _], _ => rfl
    M_Buffer_drop := ⟨a_Buffer_drop, i_Buffer_drop, k_Buffer_drop⟩
    F_Buffer_entries := fun_mk (st := s_Buffer_entries) l_Buffer_entries c_Buffer_entries k_Buffer_entries
    B_Buffer_entries := (fun_mk (st := s_Buffer_entries) l_Buffer_entries c_Buffer_entries k_Buffer_entries).binds (ps := ["self"]) fun _ _ _ _ _ _ us hl => match us, hl with | [_], _ => rfl
    M_Buffer_entries := ⟨a_Buffer_entries, i_Buffer_entries, k_Buffer_entries⟩
    F__law_tape := fun_mk (st := s__law_tape) l__law_tape c__law_tape k__law_tape
    B__law_tape := (fun_mk (st := s__law_tape) l__law_tape c__law_tape k__law_tape).binds (ps := ["script"]) fun _ _ _ _ _ _ us hl => match us, hl with | [_], _ => rfl
    m__law_tape := PySem.W.mg_of X G a__law_tape
    F__law_at := fun_mk (st := s__law_at) l__law_at c__law_at k__law_at
    B__law_at := (fun_mk (st := s__law_at) l__law_at c__law_at k__law_at).binds (ps := ["tape", "k"]) fun _ _ _ _ _ _ us hl => match us, hl with | [_, _], _ => rfl
    m__law_at := PySem.W.mg_of X G a__law_at
    F__law_word := fun_mk (st := s__law_word) l__law_word c__law_word k__law_word
    B__law_word := (fun_mk (st := s__law_word) l__law_word c__law_word k__law_word).binds (ps := ["number", "pick"]) fun _ _ _ _ _ _ us hl => match us, hl with | [_, _], _ => rfl
    m__law_word := PySem.W.mg_of X G a__law_word
    F__law_put := fun_mk (st := s__law_put) l__law_put c__law_put k__law_put
    B__law_put := (fun_mk (st := s__law_put) l__law_put c__law_put k__law_put).binds (ps := ["rows", "space", "page", "word"]) fun _ _ _ _ _ _ us hl => match us, hl with | [_, _, _, _], _ => rfl
    m__law_put := PySem.W.mg_of X G a__law_put
    F__law_frame := fun_mk (st := s__law_frame) l__law_frame c__law_frame k__law_frame
    B__law_frame := (fun_mk (st := s__law_frame) l__law_frame c__law_frame k__law_frame).binds (ps := ["rows", "space", "page", "writing"]) fun _ _ _ _ _ _ us hl => match us, hl with | [_, _, _, _], _ => rfl
    m__law_frame := PySem.W.mg_of X G a__law_frame
    F_law := fun_mk (st := s_law) l_law c_law k_law
    B_law := (fun_mk (st := s_law) l_law c_law k_law).binds (ps := ["script"]) fun _ _ _ _ _ _ us hl => match us, hl with | [_], _ => rfl
    m_law := PySem.W.mg_of X G a_law
    c_Buffer := ⟨pg_Buffer, hd_Buffer, po_Buffer, sa_Buffer⟩
    mk_Buffer := ⟨mk_Buffer, a_Buffer_init, i_Buffer_init, kc_Buffer⟩
    n_Buffer__entries := n_Buffer__entries
    k_MOST_ENTRIES := ⟨_, PySem.W.mg_of X G z_MOST_ENTRIES, t_MOST_ENTRIES, rfl⟩
    b_isinstance := PySem.W.mg_none_of X G z_isinstance
    b_int := PySem.W.mg_none_of X G z_int
    b_tuple := PySem.W.mg_none_of X G z_tuple
    b_list := PySem.W.mg_none_of X G z_list
    b_len := PySem.W.mg_none_of X G z_len
    b_range := PySem.W.mg_none_of X G z_range
    b_abs := PySem.W.mg_none_of X G z_abs
    b_min := PySem.W.mg_none_of X G z_min
    b_max := PySem.W.mg_none_of X G z_max
  }
  exact ⟨_, fun s v => .of_eq rfl, fun base _ _ => (ok_law (base := base) (P := l.prog) (w := w) T).mono (by decide)⟩
theorem walk {l : PySem.W.OpenLaw} {q : Program} {loose : List Str} {XP : (Str → Option Value) → Heap → Prop} {YP : World → Heap → Prop} {d : DefRec} {K : Params → PySem.W.Frag} (hn : l.most = some 63) (hdf : d.params.defaults = [])
    (hY : ∀ (w : World) (h : Heap), YP w h → (K w.params).In h)
    (F : ∀ (w : World) (mg : Str → Option Value) (fa : Addr) (h : Heap), (K w.params).In h → h.Ns mainGlobals mg → mg d.name = some (.ref fa) →
      ∃ fd : FuncData, (∀ (s : Shared) (u : Value), BindsTo s fd ⟨[u], []⟩ [("script", u)]) ∧ ∀ base : Heap, (K w.params).In base → base.Ns mainGlobals mg → FnOk l.prog w (K w.params) mg base CX0 9 fa fd ["script"] (spLaw (K w.params))) :
    PySem.W.WalkO q loose XP YP l.row.toRowW d [] (fun f vs => PySem.call f vs) :=
  L2.walk_of (n := 63) (k := 9) (x := "script") (CX := fun _ => CX0) (sp := fun w => spLaw (K w.params)) hn (by decide) hdf ⟨rfl, by decide, by decide⟩ hY F (fun _ _ a ns hl _ hS => ⟨a, ns, rfl, hS, hl, fun _ => rfl⟩) fun _ _ _ _ _ z => z
end K03

open PySem PySem.W PyProof.Rows in
set_option maxRecDepth 100000 in
set_option maxHeartbeats 0 in
theorem PySem.Challenge.cw_frametally_k03_buffers_holds : PySem.Challenge.rw_frametally_k03_buffers.Holds := by
  w_on; o_law; k_head; (case hw => w_witness2)
  k_fill
  refine K03.walk (l := PySem.Challenge.rw_frametally_k03_buffers) rfl rfl (fun w h Y => PySem.W.kIn_of Y) ?F
  case F =>
    intro w mg fa h KX G hmg
    refine' K03.all_mk KX G hmg ?g_Buffer ?a_leads_to_frame ?l_leads_to_frame ?c_leads_to_frame ?k_leads_to_frame ?a_Buffer_init ?i_Buffer_init ?l_Buffer_init ?c_Buffer_init ?k_Buffer_init ?a_Buffer_put ?i_Buffer_put ?l_Buffer_put ?c_Buffer_put ?k_Buffer_put ?a_Buffer_frame_for ?i_Buffer_frame_for ?l_Buffer_frame_for ?c_Buffer_frame_for ?k_Buffer_frame_for ?a_Buffer_drop ?i_Buffer_drop ?l_Buffer_drop ?c_Buffer_drop ?k_Buffer_drop ?a_Buffer_entries ?i_Buffer_entries ?l_Buffer_entries ?c_Buffer_entries ?k_Buffer_entries ?a__law_tape ?l__law_tape ?c__law_tape ?k__law_tape ?a__law_at ?l__law_at ?c__law_at ?k__law_at ?a__law_word ?l__law_word ?c__law_word ?k__law_word ?a__law_put ?l__law_put ?c__law_put ?k__law_put ?a__law_frame ?l__law_frame ?c__law_frame ?k__law_frame ?a_law ?l_law ?c_law ?k_law ?pg_Buffer ?hd_Buffer ?po_Buffer ?sa_Buffer ?mk_Buffer ?kc_Buffer ?n_Buffer__entries ?z_MOST_ENTRIES ?z_isinstance ?z_int ?z_tuple ?z_list ?z_len ?z_range ?z_abs ?z_min ?z_max
    (case g_Buffer => k_is)
    (case a_leads_to_frame => k_is)
    (case l_leads_to_frame => k_is)
    (case c_leads_to_frame => k_is)
    (case k_leads_to_frame => k_is)
    (case a_Buffer_init => k_is)
    (case i_Buffer_init => k_is)
    (case l_Buffer_init => k_is)
    (case c_Buffer_init => k_is)
    (case k_Buffer_init => k_is)
    (case a_Buffer_put => k_is)
    (case i_Buffer_put => k_is)
    (case l_Buffer_put => k_is)
    (case c_Buffer_put => k_is)
    (case k_Buffer_put => k_is)
    (case a_Buffer_frame_for => k_is)
    (case i_Buffer_frame_for => k_is)
    (case l_Buffer_frame_for => k_is)
    (case c_Buffer_frame_for => k_is)
    (case k_Buffer_frame_for => k_is)
    (case a_Buffer_drop => k_is)
    (case i_Buffer_drop => k_is)
    (case l_Buffer_drop => k_is)
    (case c_Buffer_drop => k_is)
    (case k_Buffer_drop => k_is)
    (case a_Buffer_entries => k_is)
    (case i_Buffer_entries => k_is)
    (case l_Buffer_entries => k_is)
    (case c_Buffer_entries => k_is)
    (case k_Buffer_entries => k_is)
    (case a__law_tape => k_is)
    (case l__law_tape => k_is)
    (case c__law_tape => k_is)
    (case k__law_tape => k_is)
    (case a__law_at => k_is)
    (case l__law_at => k_is)
    (case c__law_at => k_is)
    (case k__law_at => k_is)
    (case a__law_word => k_is)
    (case l__law_word => k_is)
    (case c__law_word => k_is)
    (case k__law_word => k_is)
    (case a__law_put => k_is)
    (case l__law_put => k_is)
    (case c__law_put => k_is)
    (case k__law_put => k_is)
    (case a__law_frame => k_is)
    (case l__law_frame => k_is)
    (case c__law_frame => k_is)
    (case k__law_frame => k_is)
    (case a_law => k_is)
    (case l_law => k_is)
    (case c_law => k_is)
    (case k_law => k_is)
    (case pg_Buffer => k_is)
    (case hd_Buffer => k_is)
    (case po_Buffer => k_is)
    (case sa_Buffer => k_is)
    (case mk_Buffer => k_is)
    (case kc_Buffer => k_is)
    (case n_Buffer__entries => k_is)
    (case z_MOST_ENTRIES => k_is)
    (case z_isinstance => k_is)
    (case z_int => k_is)
    (case z_tuple => k_is)
    (case z_list => k_is)
    (case z_len => k_is)
    (case z_range => k_is)
    (case z_abs => k_is)
    (case z_min => k_is)
    (case z_max => k_is)
