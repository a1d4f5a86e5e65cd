import PyProof.Rows.All
import Wide.All
import OpenK.AllK
import Wide.FinOn
import HandS.ForExc
import HandS.Comp
import HandS.IsInst
import HandS.ExcInit
import HandS.ExcIs
import HandS.CallSlots
import HandS.TupAny
import HandS.TupLe
import PySem.Challenge.RW_frametally_k06_table_words
set_option Elab.async false
set_option linter.all false
set_option maxRecDepth 100000
set_option maxHeartbeats 4000000
/-! Data that stands in the heap (None, bools, ints, texts, lists, tuples): how it stays, what shape it has, its type. -/
namespace Dk
open PySem PySem.Spec PyProof.Rows L2

theorem Same.tupS {K : PySem.W.Frag} {H H' : Hp} {a : Addr} {xs : List V} (e : Same H H') (h : SqT K H a xs) : SqT K H' a xs := by
  rcases h with (h | ⟨o, h⟩) | h
  · exact .inl (.inl (e _ _ h))
  · exact .inl (.inr ⟨o, e _ _ h⟩)
  · exact .inr h
theorem Same.new {H : Hp} {p : Addr} {o : HO} (h : H p = none) : Same H (upd H p o) := fun b u e => (upd_ne (ne_of_none e h)).trans e
/-- an object that H does not track may be written -/
theorem Same.put {H H' : Hp} {p : Addr} {o : HO} (e : Same H H') (h : H p = none) : Same H (upd H' p o) := fun b u k => (upd_ne (ne_of_none k h)).trans (e b u k)

mutual
theorem dp_mono {K : PySem.W.Frag} {H H' : Hp} (e : Same H H') : ∀ {d : PyData} {v : V}, Dp K H v d → Dp K H' v d
  | .none, _, h => by cases h; exact .non
  | .bool b, _, h => by cases h; exact .bl b
  | .int i, _, h => by cases h; exact .int i
  | .str x, _, h => by cases h; exact .str x
  | .list ds, _, h => by
    cases h with
    | lst s q => exact .lst (e.seq s) (dpAll_mono e q)
  | .tuple ds, _, h => by
    cases h with
    | tup s q => exact .tup (Same.tupS e s) (dpAll_mono e q)
  | .dict _, _, h => by cases h
theorem dpAll_mono {K : PySem.W.Frag} {H H' : Hp} (e : Same H H') : ∀ {ds : List PyData} {vs : List V}, DpAll K H vs ds → DpAll K H' vs ds
  | [], _, h => by cases h; exact .nil
  | d :: ds, _, h => by
    cases h with
    | cons a b => exact .cons (dp_mono e a) (dpAll_mono e b)
end
section
variable {K : PySem.W.Frag} {H : Hp}
theorem dpAll_app : ∀ {xs ys : List V} {ds es : List PyData}, DpAll K H xs ds → DpAll K H ys es → DpAll K H (xs ++ ys) (ds ++ es)
  | _, _, _, _, .nil, q => q
  | _, _, _, _, .cons a b, q => .cons a (dpAll_app b q)
theorem dpAll_len : ∀ {xs : List V} {ds : List PyData}, DpAll K H xs ds → xs.length = ds.length
  | _, _, .nil => rfl
  | _, _, .cons _ b => congrArg (· + 1) (dpAll_len b)
theorem dpAll_drop : ∀ {xs : List V} {ds : List PyData} (n : Nat), DpAll K H xs ds → DpAll K H (xs.drop n) (ds.drop n)
  | _, _, 0, q => q
  | _, _, n + 1, .nil => .nil
  | _, _, n + 1, .cons _ b => dpAll_drop n b
theorem dpAll_get : ∀ {xs : List V} {ds : List PyData} {i : Nat} {v : V}, DpAll K H xs ds → xs[i]? = some v → ∃ d, ds[i]? = some d ∧ Dp K H v d
  | _, _, _, _, .nil, e => by simp at e
  | _, _, 0, _, .cons a _, e => by
    simp at e
    subst e
    exact ⟨_, rfl, a⟩
  | _, _, i + 1, _, .cons _ b, e => by
    obtain ⟨d, h1, h2⟩ := dpAll_get (i := i) b (by simpa using e)
    exact ⟨d, by simpa using h1, h2⟩
theorem dpAll_ints (ns : List Int) : DpAll K H (ns.map V.int) (ns.map PyData.int) := by
  induction ns with
  | nil => exact .nil
  | cons n ns ih => exact .cons (.int n) ih
end

theorem take_snoc {α : Type} : ∀ {l : List α} {i : Nat} {x : α}, l[i]? = some x → l.take (i + 1) = l.take i ++ [x]
  | [], _, _, h => by simp at h
  | y :: l, 0, _, h => by
    simp at h
    subst h
    rfl
  | y :: l, i + 1, _, h => by
    have ih := take_snoc (l := l) (i := i) (by simpa using h)
    rw [List.take_succ_cons, ih, List.take_succ_cons]
    rfl

theorem ifF {c : Bool} {A B : Prop} (h : c = false) (b : B) : if c = true then A else B := by
  rw [h]
  exact iteF b
theorem ifT {c : Bool} {A B : Prop} (h : c = true) (b : A) : if c = true then A else B := by
  rw [h]
  exact iteT b
theorem upd_comm {H : Hp} {a b : Addr} {o u : HO} (h : a ≠ b) : upd (upd H a o) b u = upd (upd H b u) a o := by
  funext c
  by_cases ca : c = a
  · rw [ca, upd_ne h, upd_same, upd_same]
  · by_cases cb : c = b
    · rw [cb, upd_same, upd_ne (Ne.symm h), upd_same]
    · rw [upd_ne cb, upd_ne ca, upd_ne ca, upd_ne cb]
theorem upd_self {H : Hp} {a : Addr} {o : HO} (h : H a = some o) : upd H a o = H := by
  funext c
  by_cases ca : c = a
  · rw [ca, upd_same, h]
  · rw [upd_ne ca]

theorem cut1 (xs : List V) : cutV xs (some 1) none = xs.drop 1 := by
  unfold cutV
  have e1 : HT.sIx xs.length 0 (some 1) = min 1 xs.length := HT.sIx_nat xs.length 0 1
  rw [e1, HT.sIx_none]
  cases xs with
  | nil => rfl
  | cons x xs =>
    rw [show min 1 (x :: xs).length = 1 by simp only [List.length_cons]; omega]
    exact List.take_of_length_le (by rw [List.length_drop]; omega)

/-- a new object beside a list under construction at D -/
theorem new_under {G : Hp} {D p : Addr} {u o : HO} (gD : G D = none) (h : upd G D u p = none) : upd (upd G D u) p o = upd (upd G p o) D u ∧ G p = none ∧ upd G p o D = none := by
  have ne : p ≠ D := fun e => by
    rw [e, upd_same] at h
    cases h
  exact ⟨upd_comm (Ne.symm ne), (upd_ne ne).symm.trans h, (upd_ne (Ne.symm ne)).trans gD⟩

/-! ### tuples stay, whatever is written elsewhere -/
def IsT : HO → Prop
  | .tup _ => True
  | .frz _ u => IsT u
  | _ => False
def KT (H H' : Hp) : Prop := ∀ b o, H b = some o → IsT o → H' b = some o
theorem KT.refl (H : Hp) : KT H H := fun _ _ h _ => h
theorem KT.trans {H H1 H2 : Hp} (a : KT H H1) (b : KT H1 H2) : KT H H2 := fun c o h k => b c o (a c o h k) k
theorem KT.of {H H' : Hp} (e : Same H H') : KT H H' := fun b o h _ => e b o h
theorem KT.put {H : Hp} {a : Addr} {u : HO} (h : ∀ o, H a = some o → ¬ IsT o) : KT H (upd H a u) := fun b o e k => by
  have ne : b ≠ a := fun z => h o (z ▸ e) k
  rw [upd_ne ne]
  exact e
theorem KT.lst {H : Hp} {a : Addr} {xs : List V} {u : HO} (h : H a = some (.lst xs)) : KT H (upd H a u) := KT.put fun o e k => by
  rw [h] at e
  cases e
  exact k
theorem KT.ins {H : Hp} {a C dx : Addr} {fs : List (Str × V)} {u : HO} (h : H a = some (.ins C dx fs)) : KT H (upd H a u) := KT.put fun o e k => by
  rw [h] at e
  cases e
  exact k
theorem KT.new {H : Hp} {a : Addr} {u : HO} (h : H a = none) : KT H (upd H a u) := KT.of (Same.new h)
theorem KT.tupS {K : PySem.W.Frag} {H H' : Hp} {a : Addr} {xs : List V} (e : KT H H') (h : SqT K H a xs) : SqT K H' a xs := by
  rcases h with (h | ⟨o, h⟩) | h
  · exact .inl (.inl (e _ _ h True.intro))
  · exact .inl (.inr ⟨o, e _ _ h True.intro⟩)
  · exact .inr h
mutual
/-- no list, no dict within -/
def noL : PyData → Bool
  | .none => true
  | .bool _ => true
  | .int _ => true
  | .str _ => true
  | .list _ => false
  | .dict _ => false
  | .tuple ds => noLs ds
def noLs : List PyData → Bool
  | [] => true
  | d :: ds => noL d && noLs ds
end
mutual
theorem dp_keep {K : PySem.W.Frag} {H H' : Hp} (e : KT H H') : ∀ {d : PyData} {v : V}, noL d = true → Dp K H v d → Dp K H' v d
  | .none, _, _, h => by cases h; exact .non
  | .bool b, _, _, h => by cases h; exact .bl b
  | .int i, _, _, h => by cases h; exact .int i
  | .str x, _, _, h => by cases h; exact .str x
  | .list ds, _, n, h => by simp [noL] at n
  | .tuple ds, _, n, h => by
    cases h with
    | tup s q => exact .tup (e.tupS s) (dpAll_keep e (by simpa [noL] using n) q)
  | .dict _, _, _, h => by cases h
theorem dpAll_keep {K : PySem.W.Frag} {H H' : Hp} (e : KT H H') : ∀ {ds : List PyData} {vs : List V}, noLs ds = true → DpAll K H vs ds → DpAll K H' vs ds
  | [], _, _, h => by cases h; exact .nil
  | d :: ds, _, n, h => by
    cases h with
    | cons a b =>
      have n2 : noL d = true ∧ noLs ds = true := by simpa [noLs] using n
      exact .cons (dp_keep e n2.1 a) (dpAll_keep e n2.2 b)
end
theorem noLs_of : ∀ {ds : List PyData}, (∀ d ∈ ds, noL d = true) → noLs ds = true
  | [], _ => by simp only [noLs]
  | d :: ds, h => by
    simp only [noLs, h d (List.mem_cons_self ..), noLs_of fun x hx => h x (List.mem_cons_of_mem _ hx), Bool.and_self]
theorem noL_tup {ds : List PyData} (h : ∀ d ∈ ds, noL d = true) : noL (.tuple ds) = true := by
  simp only [noL]
  exact noLs_of h

/-! ### shapes -/
structure Sh (n : Nat) (d : PyData) : Prop where
  lay : d.canLay0 = true
  deep : d.depth ≤ n
theorem Sh.up {n m : Nat} {d : PyData} (h : Sh n d) (k : n ≤ m) : Sh m d := ⟨h.lay, Nat.le_trans h.deep k⟩
theorem sh_none : Sh 0 .none := ⟨by simp only [PyData.canLay0], by simp only [PyData.depth]; omega⟩
theorem sh_int (i : Int) : Sh 0 (.int i) := ⟨by simp only [PyData.canLay0], by simp only [PyData.depth]; omega⟩
theorem sh_bool (b : Bool) : Sh 0 (.bool b) := ⟨by simp only [PyData.canLay0], by simp only [PyData.depth]; omega⟩
theorem sh_all {n : Nat} : ∀ {ds : List PyData}, (∀ d ∈ ds, Sh n d) → PyData.canLayAll0 ds = true ∧ PyData.depthAll ds ≤ n
  | [], _ => ⟨by simp only [PyData.canLayAll0], by simp only [PyData.depthAll]; omega⟩
  | d :: ds, h => by
    have h1 := h d (List.mem_cons_self ..)
    obtain ⟨h2, h3⟩ := sh_all (n := n) (ds := ds) fun x hx => h x (List.mem_cons_of_mem _ hx)
    exact ⟨by simp only [PyData.canLayAll0, h1.lay, h2, Bool.and_self], by simp only [PyData.depthAll]; exact Nat.max_le.mpr ⟨h1.deep, h3⟩⟩
theorem sh_tup {n : Nat} {ds : List PyData} (h : ∀ d ∈ ds, Sh n d) : Sh (n + 1) (.tuple ds) := by
  obtain ⟨h1, h2⟩ := sh_all h
  exact ⟨by simp only [PyData.canLay0]; exact h1, by simp only [PyData.depth]; omega⟩
theorem sh_lst {n : Nat} {ds : List PyData} (h : ∀ d ∈ ds, Sh n d) : Sh (n + 1) (.list ds) := by
  obtain ⟨h1, h2⟩ := sh_all h
  exact ⟨by simp only [PyData.canLay0]; exact h1, by simp only [PyData.depth]; omega⟩
theorem Sh.ok {n : Nat} {d : PyData} (h : Sh n d) (k : n ≤ 64 := by decide) : SeqAt.shaped d = true := by
  unfold SeqAt.shaped
  rw [h.lay, decide_eq_true (Nat.le_trans h.deep k)]
  rfl
theorem Sh.refl {n : Nat} {d : PyData} (h : Sh n d) : PyData.eqv d d = true := SeqAt.eqv_refl d h.lay

/-! ### types -/
def tyN : PyData → String
  | .none => "NoneType"
  | .bool _ => "bool"
  | .int _ => "int"
  | .str _ => "str"
  | .list _ => "list"
  | .tuple _ => "tuple"
  | .dict _ => "dict"
theorem tyx {K : PySem.W.Frag} {H : Hp} {v : V} {d : PyData} (h : Dp K H v d) : TyX K H v (.type (tyN d)) := by
  cases h with
  | non => exact .base .non
  | bl b => exact .base (.bl b)
  | int i => exact .base (.int i)
  | str x => exact .base (.str x)
  | lst s _ =>
    rcases s with (s | ⟨o, s⟩) | s
    · exact .base (.lst s)
    · exact .base (.frz s)
    · obtain ⟨o, _, _, h1, h2, _⟩ := s
      exact .kList h1 h2
  | tup s _ =>
    rcases s with (s | ⟨o, s⟩) | s
    · exact .base (.tup s)
    · exact .fTuple s
    · obtain ⟨o, _, _, h1, h2, _⟩ := s
      exact .kTuple h1 h2

/-! ### isinstance over data -/
def isInt : PyData → Bool
  | .int _ => true
  | .bool _ => true
  | _ => false
def isBool : PyData → Bool
  | .bool _ => true
  | _ => false
def isTup : PyData → Bool
  | .tuple _ => true
  | _ => false
def isLst : PyData → Bool
  | .list _ => true
  | _ => false
def kits (c : String) : List (Option Bool) := ["NoneType", "bool", "int", "str", "list", "tuple", "dict"].map fun t => kitB t c
theorem kits_at {c : String} {b0 b1 b2 b3 b4 b5 b6 : Bool} (h : kits c = [some b0, some b1, some b2, some b3, some b4, some b5, some b6]) (d : PyData) :
    kitB (tyN d) c = some (match d with | .none => b0 | .bool _ => b1 | .int _ => b2 | .str _ => b3 | .list _ => b4 | .tuple _ => b5 | .dict _ => b6) := by
  simp only [kits, List.map_cons, List.map_nil, List.cons.injEq, and_true] at h
  obtain ⟨h0, h1, h2, h3, h4, h5, h6⟩ := h
  cases d
  · exact h0
  · exact h1
  · exact h2
  · exact h3
  · exact h4
  · exact h5
  · exact h6
section
variable {K : PySem.W.Frag}
theorem kit_int (d : PyData) : PySem.W.kitOne K (.type (tyN d)) (.type "int") = some (isInt d) := by
  refine (kit_ty (kits_at (by decide +kernel : kits "int" = [some false, some true, some true, some false, some false, some false, some false]) d)).trans ?_
  cases d <;> rfl
theorem kit_bool (d : PyData) : PySem.W.kitOne K (.type (tyN d)) (.type "bool") = some (isBool d) := by
  refine (kit_ty (kits_at (by decide +kernel : kits "bool" = [some false, some true, some false, some false, some false, some false, some false]) d)).trans ?_
  cases d <;> rfl
theorem kit_tup (d : PyData) : PySem.W.kitOne K (.type (tyN d)) (.type "tuple") = some (isTup d) := by
  refine (kit_ty (kits_at (by decide +kernel : kits "tuple" = [some false, some false, some false, some false, some false, some true, some false]) d)).trans ?_
  cases d <;> rfl
theorem kit_lst (d : PyData) : PySem.W.kitOne K (.type (tyN d)) (.type "list") = some (isLst d) := by
  refine (kit_ty (kits_at (by decide +kernel : kits "list" = [some false, some false, some false, some false, some true, some false, some false]) d)).trans ?_
  cases d <;> rfl
end
end Dk
/-! An own error class over ValueError that is made without an argument and keeps no field: C(), its __init__ walked as a def. -/
namespace Ek
open PySem PySem.Spec PyProof.Rows L2
section
variable {X : Cx} {a C : Addr} {p pos : Pos}

/-- behind C(): the error at a is let go, nothing else of the heap has changed its tracking -/
theorem let_go {pins : List (Addr × Obj)} {σ : L2.St} {H1 H2 : Hp} {u v w2 : Heap} {gA gB : Array GenState} {dA dB : Drawn} {tA tB : Nat} {oA oB : OsState}
    (I1 : Inv X pins σ H1 ⟨u, gA, dA, tA, oA⟩) (ha : u.objs.size ≤ a) (kp : ∀ b o, u.get? b = some o → v.get? b = some o)
    (un : Un (frs X.stack) [] (upd H1 a (exo a C none)) H2 v w2) (ok2 : HOk X.prog X.w H2 w2) (eo : oB = oA) (bare : AllBare gB) (ea : H2 a = some (exo a C none)) :
    ∃ (t0 : Addr) (G : Heap), Inv X pins σ (del H2 a) ⟨G, gB, dB, tB, oB⟩ ∧ (∀ b o, G.get? b = some o → w2.get? b = some o) ∧ G.get? a = none ∧
      w2.get? a = some ({ cls := .ref C, dict := none, data := .fields #[.ref t0, .none, .none, .none, .bool false, .none] } : Obj) := by
  obtain ⟨t0, he⟩ := exo_at ok2 ea
  have hn : H1 a = none := I1.hok.fresh ha
  obtain ⟨G, gIn, gOut⟩ := restrict w2 (fun b => decide (b ≠ a))
  have same : ∀ b, b ≠ a → G.get? b = w2.get? b := fun b hb => gIn b (decide_eq_true hb)
  have gone : G.get? a = none := gOut a (by simp)
  have old : ∀ {b : Addr} {o : Obj}, u.get? b = some o → b ≠ a := fun {b o} z => Nat.ne_of_lt (Nat.lt_of_lt_of_le (Heap.lt_size z) ha)
  have up : ∀ {b : Addr}, b ≠ a → H1 b = none → upd H1 a (exo a C none) b = none := fun {b} hb n => (upd_ne hb).trans n
  have U : Un (frs X.stack) [] H1 (del H2 a) u G :=
    { keep := fun b o z n hf hx => (same b (old z)).trans (un.keep b o (kp b o z) (up (old z) n) hf hx)
      slot := fun b o z n hf hx => by
        obtain ⟨sl, e⟩ := un.slot b o (kp b o z) (up (old z) n) hf hx
        exact ⟨sl, (same b (old z)).trans e⟩
      free := fun b o z n hx => (del_ne (old z)).trans (un.free b o (kp b o z) (up (old z) n) hx)
      there := fun b o z hx => by
        obtain ⟨o2, e⟩ := un.there b o (kp b o z) hx
        exact ⟨o2, (same b (old z)).trans e⟩
      tups := fun b xs z => (del_ne (ne_of_none z hn)).trans (un.tups b xs ((upd_ne (ne_of_none z hn)).trans z))
      frzs := fun b o y z => (del_ne (ne_of_none z hn)).trans (un.frzs b o y ((upd_ne (ne_of_none z hn)).trans z))
      tbls := fun b ps z => by
        obtain ⟨more, e⟩ := un.tbls b ps ((upd_ne (ne_of_none z hn)).trans z)
        exact ⟨more, (del_ne (ne_of_none z hn)).trans e⟩ }
  have noa : ∀ {b c : Addr}, H2 c = some (.own b) → c ≠ a := fun {b c} hc => at_ne ea hc exo_own
  have ok3 : HOk X.prog X.w (del H2 a) G := fun b o z => by
    have hba : b ≠ a := fun e => by
      rw [e, del_same] at z
      cases z
    rw [del_ne hba] at z
    refine (ok2 b o z).stay (fun c y hc q => ?_) (fun c hc => (del_ne (noa hc)).trans hc) (fun c xs hc => (del_ne (at_ne ea hc exo_tup)).trans hc)
    have hca : c ≠ a := by
      rcases hc with hc | hc
      · exact hc ▸ hba
      · exact noa hc
    exact (same c hca).trans q
  refine ⟨t0, G, I1.call' (ch := []) eo U ok3 bare (fun b z => absurd z (by simp)), fun b o z => ?_, gone, he⟩
  by_cases hba : b = a
  · rw [hba, gone] at z
    cases z
  · exact (same b hba).symm.trans z

/-- C(), where __init__ sets nothing -/
def tMk0 (C : Addr) (sp : Sp) : L2.St → Hp → XK → Prop := fun _ H Q => ∀ a, H a = none →
  sp [.ref a] (upd H a (exo a C none)) (fun v H2 => v = .non ∧ H2 a = some (exo a C none) ∧ Q (.ref C) none (del H2 a)) (fun _ _ _ => False)
theorem mk_exc0 {CX : CXT} {x : Str} {C fI : Addr} {k : Nat} {fd : FuncData} {ps : List Str} {sp : Sp} (T : OexC X.K C)
    (iC : PySem.W.findIn X.K (.ref C) "__init__" = some (some (.ref fI))) (tI : PySem.W.typeIn X.K (.ref fI) = some (.type "function"))
    (F1 : FnOk X.prog X.w X.K X.mg X.base CX k fI fd ps sp) (hr : Room (k + 1) X.A) (hb : Binds X.K fd ps []) (hx : Passes CX X (fun _ _ _ => False))
    (hg : Gl X x) (hm : X.mg x = some (.ref C)) (hdb : (x == ("__debug__" : Str)) = false := by decide) :
    PMk X (.Call (.Name x p) [] [] pos) (tMk0 C sp) := by
  intro pins s σ H Q I h
  obtain ⟨nm, q, N, bs, bm, sn, sub, ab, col, dd, k0, k1, k2, k3, k5, hC, hbm⟩ := T.cls
  refine wpAny_Call_Name_kw (ld_glob I hg hm ?_ hdb)
  refine PySem.W.callWith_K0 I.kIn T.kC ?_
  show wpAny _ _ (call (.ref C) []) _ _ _
  obtain ⟨hp, g, dr, tk, os⟩ := s
  have hsz : hp.objs.size ≤ hp.objs.size + 1 := Nat.le_succ _
  have hn : H (hp.objs.size + 1) = none := I.hok.fresh hsz
  have want := h (hp.objs.size + 1) hn
  have keep2 : ∀ b o, hp.get? b = some o → ((hp.push (PySem.W.kdv_tup [])).push (PySem.HandSPX.excO C hp.objs.size)).get? b = some o :=
    fun b o e => Heap.get?_push_of_some _ (Heap.get?_push_of_some _ e)
  have atE : ((hp.push (PySem.W.kdv_tup [])).push (PySem.HandSPX.excO C hp.objs.size)).get? (hp.objs.size + 1) = some (PySem.HandSPX.excO C hp.objs.size) := by heap_get
  have I2 : Inv X pins σ (upd H (hp.objs.size + 1) (exo (hp.objs.size + 1) C none)) ⟨(hp.push (PySem.W.kdv_tup [])).push (PySem.HandSPX.excO C hp.objs.size), g, dr, tk, os⟩ :=
    I.laid (t' := tk) (a := hp.objs.size + 1) (o := exo (hp.objs.size + 1) C none) (h' := (hp.push (PySem.W.kdv_tup [])).push (PySem.HandSPX.excO C hp.objs.size)) keep2 hsz (exo_ok atE)
  have r2 : Vals [V.ref (hp.objs.size + 1)] [Value.ref (hp.objs.size + 1)] := .cons rfl .nil
  have len1 : ([Value.ref (hp.objs.size + 1)] : List Value).length = ps.length := by
    have e := r2.length
    rw [F1.len _ _ _ _ want] at e
    exact e.symm
  refine wpAny_call (PySem.HandSPX.call_own (rest := []) F.excBase_ValueError (fun Y => PySem.HandSPX.refsVE_contains Y bm hbm) (I.kIn _ _ hC) (PySem.W.looks_findIn I.kIn iC)
    (fun self => PySem.W.bind_fn I.kIn self tI) (Nat.zero_le _) (codeAny_mono (F1.run _ X.stack _ _ ⟨[Value.ref (hp.objs.size + 1)], []⟩ [Value.ref (hp.objs.size + 1)] _ _ (fun _ _ _ => False)
      (hr.make C [] []) (I2.env0.make C [] []) (hb _ [Value.ref (hp.objs.size + 1)] I2.kIn len1) r2 want) fun r s2 back => ?_))
  cases r with
  | error er => exact hx pins σ _ _ er s2 I2 back
  | ok fl =>
    cases fl with
    | ret y =>
      obtain ⟨v, H2, os2, bare2, un2, hok2, rv, ev, ea, wish⟩ := back
      subst ev
      obtain ⟨h2, g2, d2, t2, o2⟩ := s2
      obtain ⟨t0, G, J, kG, gone, there⟩ := let_go (dB := d2) (tB := t2) I hsz keep2 un2 hok2 os2 bare2 ea
      exact ⟨rv, ⟨_, _, _, ⟨G, g2, d2, t2, o2⟩, _, .ref C, none, rfl, J, kG, gone, there, ⟨rfl, rfl⟩, rfl, rfl, del_same, rfl, bare2, raises_own T.exC T.tyC, wish⟩⟩
    | next => exact back.elim
    | brk => exact back.elim
    | cont => exact back.elim
end

section
variable {X : Cx} {CX : CXT} {k : Nat} {f C : Addr} {fd : FuncData} {ps : List Str} {sp : Sp} {E : L2.St → XK} {m : Str} {apos pos : Pos} {e o : Expr} {es : List Expr} {ta : TE} {t : TA}
/-- o.m(e, ..), where what is raised is wished for at the caller's slots -/
def tMethW (C : Addr) (m : Str) (sp : Sp) (E : L2.St → XK) (ta : TE) (t : TA) : TE := fun σ H Q => ta σ H fun x H1 =>
  ∃ a dx fs, x = .ref a ∧ H1 a = some (.ins C dx fs) ∧ fs.lookup m = none ∧ t σ H1 fun vs H2 => sp (x :: vs) H2 Q (E σ)
theorem pe_methW {pl : Sem Bool} (he : PE X o ta) (c : Cls X.K C) (hm : Meth X.K C m f) (F : FnOk X.prog X.w X.K X.mg X.base CX k f fd ps sp) (hr : Room k X.A) (hb : Binds X.K fd ps [])
    (hx : ∀ σ, PassesAt CX X σ (E σ)) (ha : PA X (e :: es) t)
    (hst : starEach (e :: es) X.env = (false, eval e X.env) :: starEach es X.env := by rfl) (hpl : (backTo pos (starEach es X.env)).any (·.1) = false := by rfl)
    (ht : eval (.Call (.Attribute o m apos) (e :: es) [] pos) X.env = (do
      let ov ← eval o X.env
      standAt apos.atName
      let fr ← holding [ov] (getMethod ov m pl)
      callWith pos fr.1 fr.2 (backTo pos (starEach (e :: es) X.env)) (backToKw pos (keywordEach [] X.env))) := by rfl) :
    PE X (.Call (.Attribute o m apos) (e :: es) [] pos) (tMethW C m sp E ta t) := by
  refine ⟨fun pins s σ H Q I h => ?_⟩
  refine PySem.W.methodCall_KW (pl := pl) (thn (he.run pins s σ H _ I h) fun u s1 ⟨x, H1, I1, rx, a, dx, fs, ex, ea, l, q⟩ => ?_) ht
  subst ex
  obtain rfl : u = Value.ref a := rx
  refine getmeth_ok I1 ea c hm l ?_
  refine PySem.W.callWith_K (first := [.ref a]) (h₀ := X.base) I.ok.mod.kin hm.kp (thn (ha.run pos pins s1 σ H1 _ I1 q) fun us s2 ⟨vs, H2, I2, r, q2⟩ => ⟨I2.kIn, ?_⟩) hst hpl
  exact run_fnS (us := .ref a :: us) (vs := .ref a :: vs) F hr hb (hx σ) I2 (.cons rfl r) q2
end

theorem hu65 {k : Nat} {A : Around} (hr : Room k A) : A.units + 65 < cLine := by
  have := hr.un
  omega
/-- a module's constant -/
theorem pe_con {X : Cx} {x : Str} {pos : Pos} {v : V} (hg : Gl X x) (h : ∃ u, X.mg x = some u ∧ RelV v u) (hdb : (x == ("__debug__" : Str)) = false := by decide) : PE X (.Name x pos) (tC v) := by
  obtain ⟨u, h1, h2⟩ := h
  exact pe_glob hg h1 h2 hdb
/-- a statement and what follows it, joined by a word of one's own: what follows is read once, whatever way led there -/
def tMid (t u : TS) : TS := fun D σ H => ∃ M : L2.St → Hp → Prop, t { D with nx := M } σ H ∧ ∀ σ2 H2, M σ2 H2 → u D σ2 H2
theorem pss_mid {X : Cx} {st : Stmt} {more : List Stmt} {t u : TS} (hs : PS X st t) (hm : PSs X more u) : PSs X (st :: more) (tMid t u) := ⟨fun pins s σ H D I ⟨M, hM, hu⟩ =>
  wpAny_execs_cons (thn (hs.run pins s σ H { D with nx := M } I hM) fun f s2 back => by
    cases f with
    | next =>
      obtain ⟨σ2, H2, I2, y⟩ := back
      exact hm.run pins s2 σ2 H2 D I2 (hu σ2 H2 y)
    | ret v => exact back
    | brk => exact back
    | cont => exact back)⟩
/-- a block that is walked under a condition which its reading brings -/
theorem pss_under {X : Cx} {sts : List Stmt} {P : Prop} {t : TS} (h : P → PSs X sts t) : PSs X sts (fun D σ H => P ∧ t D σ H) :=
  ⟨fun pins s σ H D I q => (h q.1).run pins s σ H D I q.2⟩
section
variable {X : Cx} {CX : CXT} {k : Nat} {f C : Addr} {fd : FuncData} {ps : List Str} {sp : Sp} {E : L2.St → XK} {x : Str} {p pos : Pos} {e : Expr} {es : List Expr} {t : TA}
/-- C(e, ..), where what is raised is wished for at the caller's slots -/
def tMakeW (C : Addr) (sp : Sp) (E : L2.St → XK) (t : TA) : TE := fun σ H Q => t σ H fun vs H1 => ∀ x dx, H1 x = none → H1 dx = none → dx ≠ x → sp (.ref x :: vs) (upd (upd H1 dx (.own x)) x (.ins C dx [])) (fun v H2 => v = .non ∧ Q (.ref x) H2) (E σ)
theorem run_makeW {pins : List (Addr × Obj)} {σ : L2.St} {H : Hp} {s : Shared} {Q : VK} {us : List Value} {vs : List V} (M : Mk X.K C f) (F : FnOk X.prog X.w X.K X.mg X.base CX k f fd ps sp) (hr : Room (k + 1) X.A) (hb : Binds X.K fd ps [])
    (hx : PassesAt CX X σ (E σ)) (I : Inv X pins σ H s) (r : Vals vs us)
    (h : ∀ x dx, H x = none → H dx = none → dx ≠ x → sp (.ref x :: vs) (upd (upd H dx (.own x)) x (.ins C dx [])) (fun v H2 => v = .non ∧ Q (.ref x) H2) (E σ)) :
    wpAny (model X.prog X.w) X.A (call (.ref C) us) (EP X pins σ Q) X.xe s := by
  have hq := h (s.heap.objs.size + 1) s.heap.objs.size (I.hok.fresh (Nat.le_succ _)) (I.hok.fresh (Nat.le_refl _)) (Nat.ne_of_lt (Nat.lt_succ_self _))
  have I2 := Inv.made (C := C) I
  have r2 : Vals (V.ref (s.heap.objs.size + 1) :: vs) (Value.ref (s.heap.objs.size + 1) :: us) := .cons rfl r
  have hl : (Value.ref (s.heap.objs.size + 1) :: us).length = ps.length := by
    have e := r2.length
    rw [F.len _ _ _ _ hq] at e
    exact e.symm
  have b := hb ((⟨_, s.gens, s.drawn, s.toks, s.os⟩ : Shared)) (Value.ref (s.heap.objs.size + 1) :: us) I2.kIn (by rw [List.append_nil]; exact hl)
  rw [List.append_nil] at b
  refine wpAny_call (make_map (f := f) I.kIn M.makes M.init (beq_iff_eq.mp M.fn) (codeAny_mono (F.run _ X.stack _ _ ⟨Value.ref (s.heap.objs.size + 1) :: us, []⟩ (Value.ref (s.heap.objs.size + 1) :: us) _ _ (E σ) (hr.make C us [])
    (I2.env0.make C us []) b r2 hq) fun r s' hq' => ?_))
  cases r with
  | error e => exact hx pins _ _ e s' I2 hq'
  | ok fl =>
    cases fl with
    | ret u =>
      obtain ⟨v, H', I3, rv, ev, q3⟩ := I2.after hq'
      subst ev
      exact ⟨rv, ⟨V.ref (s.heap.objs.size + 1), H', I3, rfl, q3⟩⟩
    | next => exact False.elim hq'
    | brk => exact False.elim hq'
    | cont => exact False.elim hq'
theorem pe_makeW (M : Mk X.K C f) (F : FnOk X.prog X.w X.K X.mg X.base CX k f fd ps sp) (hr : Room (k + 1) X.A) (hg : Gl X x) (hm : X.mg x = some (.ref C)) (hb : Binds X.K fd ps []) (hx : ∀ σ, PassesAt CX X σ (E σ))
    (ha : PA X (e :: es) t) (hdb : (x == ("__debug__" : Str)) = false := by decide) (he : starEach (e :: es) X.env = (false, eval e X.env) :: starEach es X.env := by rfl) (hpl : (backTo pos (starEach es X.env)).any (·.1) = false := by rfl) :
    PE X (.Call (.Name x p) (e :: es) [] pos) (tMakeW C sp E t) := by
  refine ⟨fun pins s σ H Q I h => ?_⟩
  refine wpAny_Call_Name_kw (ld_glob I hg hm ?_ hdb)
  refine PySem.W.callWith_K (h₀ := X.base) I.ok.mod.kin M.kp (thn (ha.run pos pins s σ H _ I h) fun us s1 ⟨vs, H1, I1, r, q⟩ => ⟨I1.kIn, ?_⟩) he hpl
  exact run_makeW M F hr hb (hx σ) I1 r q
end
end Ek
/-! Buffers' entries: tuples (space, page, frame, writable) in the heap; pairs; x not in a list or tuple of data; table words. -/
namespace Nk
open PySem PySem.Spec PyProof.Rows L2 Dk

/-- all but the object at b is as it was -/
def SameBut (b : Addr) (H H' : Hp) : Prop := ∀ x o, x ≠ b → H x = some o → H' x = some o
theorem Same.but {b : Addr} {H H' : Hp} (e : Same H H') : SameBut b H H' := fun x o _ h => e x o h
theorem SameBut.trans {b : Addr} {H H1 H2 : Hp} (e : SameBut b H H1) (f : SameBut b H1 H2) : SameBut b H H2 := fun x o n h => f x o n (e x o n h)
theorem SameBut.put {b p : Addr} {H H' : Hp} {o : HO} (e : SameBut b H H') (h : H p = none) : SameBut b H (upd H' p o) := fun x u n k => (upd_ne (ne_of_none k h)).trans (e x u n k)
theorem SameBut.own {b : Addr} {H H' : Hp} {o : HO} (e : SameBut b H H') : SameBut b H (upd H' b o) := fun x u n k => (upd_ne n).trans (e x u n k)
/-- tuples stay where the object at b is none -/
theorem SameBut.kt {b C dx : Addr} {fs : List (Str × V)} {H H' : Hp} (e : SameBut b H H') (h : H b = some (.ins C dx fs)) : KT H H' := fun x o k t => e x o (fun z => by
  rw [z, h] at k
  cases k
  exact t) k

structure En where
  (s p f : Int)
  w : Bool
def eV (e : En) : List V := [.int e.s, .int e.p, .int e.f, .bl e.w]
def eD (e : En) : PyData := .tuple [.int e.s, .int e.p, .int e.f, .bool e.w]
def aV (z : Addr × En) : V := .ref z.1
def EnAll (H : Hp) (zs : List (Addr × En)) : Prop := ∀ z ∈ zs, H z.1 = some (.tup (eV z.2))
theorem EnAll.kt {H H' : Hp} {zs : List (Addr × En)} (h : EnAll H zs) (e : KT H H') : EnAll H' zs := fun z hz => e _ _ (h z hz) True.intro
theorem EnAll.nil (H : Hp) : EnAll H [] := fun _ h => absurd h List.not_mem_nil
theorem EnAll.app {H : Hp} {zs ys : List (Addr × En)} (h : EnAll H zs) (k : EnAll H ys) : EnAll H (zs ++ ys) := fun z hz => (List.mem_append.mp hz).elim (h z) (k z)
theorem EnAll.one {H : Hp} {t : Addr} {e : En} (h : H t = some (.tup (eV e))) : EnAll H [(t, e)] := fun z hz => by
  rw [List.mem_singleton.mp hz]
  exact h
theorem EnAll.filter {H : Hp} {zs : List (Addr × En)} (h : EnAll H zs) (c : Addr × En → Bool) : EnAll H (zs.filter c) := fun z hz => h z (List.mem_filter.mp hz).1
theorem EnAll.drop {H : Hp} {zs : List (Addr × En)} (h : EnAll H zs) (n : Nat) : EnAll H (zs.drop n) := fun z hz => h z (List.mem_of_mem_drop hz)
theorem EnAll.dp {K : PySem.W.Frag} {H : Hp} : ∀ {zs : List (Addr × En)}, EnAll H zs → DpAll K H (zs.map aV) ((zs.map Prod.snd).map eD)
  | [], _ => .nil
  | z :: zs, h => .cons (.tup (SqT.of (h z (List.mem_cons_self ..))) (.cons (.int _) (.cons (.int _) (.cons (.int _) (.cons (.bl _) .nil))))) (EnAll.dp fun y hy => h y (List.mem_cons_of_mem _ hy))
theorem shE (e : En) : Sh 1 (eD e) := sh_tup fun d hd => by
  simp only [List.mem_cons, List.not_mem_nil, or_false] at hd
  rcases hd with rfl | rfl | rfl | rfl
  · exact sh_int _
  · exact sh_int _
  · exact sh_int _
  · exact sh_bool _
theorem shEs (es : List En) : Sh 2 (.list (es.map eD)) := sh_lst fun d hd => by
  obtain ⟨e, _, rfl⟩ := List.mem_map.mp hd
  exact shE e
theorem map_get {α β : Type} {f : α → β} {l : List α} {i : Nat} {y : β} (h : (l.map f)[i]? = some y) : ∃ x, l[i]? = some x ∧ y = f x := by
  rw [List.getElem?_map] at h
  cases e : l[i]? with
  | none =>
    rw [e] at h
    cases h
  | some x =>
    rw [e] at h
    exact ⟨x, rfl, (Option.some.inj h).symm⟩
theorem mem_of_get {α : Type} {l : List α} {i : Nat} {x : α} (h : l[i]? = some x) : x ∈ l := by
  obtain ⟨hi, e⟩ := List.getElem?_eq_some_iff.mp h
  exact e ▸ List.getElem_mem hi

/-! ### pairs -/
def pD (q : Int × Int) : PyData := .tuple [.int q.1, .int q.2]
theorem eqv_pD (q r : Int × Int) : PyData.eqv (pD q) (pD r) = decide (q = r) := by
  obtain ⟨a, b⟩ := q
  obtain ⟨c, d⟩ := r
  simp only [pD, PyData.eqv, PyData.eqvAll, Bool.and_true, Prod.mk.injEq]
  by_cases h1 : a = c
  · by_cases h2 : b = d
    · simp [h1, h2]
    · simp [h1, h2]
  · simp [h1]
theorem shP (q : Int × Int) : Sh 1 (pD q) := sh_tup fun d hd => by
  simp only [List.mem_cons, List.not_mem_nil, or_false] at hd
  rcases hd with rfl | rfl
  · exact sh_int _
  · exact sh_int _
theorem shPs (ps : List (Int × Int)) : Sh 2 (.list (ps.map pD)) := sh_lst fun d hd => by
  obtain ⟨e, _, rfl⟩ := List.mem_map.mp hd
  exact shP e
def keep (ps : List (Int × Int)) (e : En) : Bool := !ps.any fun q => decide (q = (e.s, e.p))
theorem any_pD (ps : List (Int × Int)) (e : En) : (!(ps.map pD).any fun d => PyData.eqv d (pD (e.s, e.p))) = keep ps e := by
  unfold keep
  rw [List.any_map]
  congr 2
  funext q
  exact eqv_pD q (e.s, e.p)

theorem filter_snd (c : En → Bool) : ∀ zs : List (Addr × En), (zs.filter fun z => c z.2).map Prod.snd = (zs.map Prod.snd).filter c
  | [] => rfl
  | z :: zs => by
    have ih := filter_snd c zs
    rw [List.filter_cons, List.map_cons, List.filter_cons]
    by_cases h : c z.2 = true
    · rw [if_pos h, if_pos h, List.map_cons, ih]
    · rw [if_neg h, if_neg h, ih]

/-! ### x not in y, y a list or a tuple of data -/
def rNiD (K : PySem.W.Frag) : R2 := fun x y H Q => ∃ d ds, Dp K H x d ∧ (Dp K H y (.list ds) ∨ Dp K H y (.tuple ds)) ∧ SeqAt.shaped d = true ∧ SeqAt.shaped (.list ds) = true ∧ Q (.bl (!ds.any fun z => PyData.eqv z d)) H
theorem op_niD {X : Cx} (hu : X.A.units + 65 < cLine) : OpR X (compareOp .NotIn) (rNiD X.K) := by
  intro pins s σ H x y v u Q I rx ry h
  obtain ⟨d, ds, hd, he, sd, se, q⟩ := h
  obtain ⟨as, r1⟩ := Dp.reads I d x v hd rx
  have c1 := SeqAt.canLay_of_shaped se
  have c2 := SeqAt.canLay_of_shaped sd
  have d2 := SeqAt.depth_of_shaped sd
  have room : X.A.units + 1 + min (PyData.depthAll ds) d.depth < cLine := by
    have := Nat.min_le_right (PyData.depthAll ds) d.depth
    omega
  rcases he with he | he
  · obtain ⟨bs, r2⟩ := Dp.reads I (.list ds) y u he ry
    exact SeqAt.notIn_list_reads r2 r1 (by simpa only [PyData.canLay0] using c1) c2 room ⟨.bl _, H, I, rfl, q⟩
  · obtain ⟨bs, r2⟩ := Dp.reads I (.tuple ds) y u he ry
    exact SeqAt.notIn_tuple_reads r2 r1 (by simpa only [PyData.canLay0] using c1) c2 room ⟨.bl _, H, I, rfl, q⟩

/-! ### table words of the law, the buffer's mirror -/
inductive Wd where
  | frame (f : Int) (w : Bool)
  | non
  | swap (n : Int)
  | file
  | held
def Wd.leads : Wd → Bool
  | .frame _ _ => true
  | _ => false
def wD : Wd → PyData
  | .frame f w => .tuple [.str "frame", .int f, .bool w]
  | .non => .none
  | .swap n => .tuple [.str "swap", .int n]
  | .file => .tuple [.str "file", .int 1, .int 2]
  | .held => .tuple [.str "held"]
def last2 (es : List En) : List En := if 2 < es.length then es.drop 1 else es
def putM (s p : Int) (x : Wd) (es : List En) : List En := match x with
  | .frame f w => last2 (es.filter (keep [(s, p)]) ++ [⟨s, p, f, w⟩])
  | _ => es.filter (keep [(s, p)])
theorem cut_last2 (xs : List V) : cutV xs (some (-2)) none = xs.drop (xs.length - 2) := by
  unfold cutV
  have e1 : HT.sIx xs.length 0 (some (-2)) = xs.length - 2 := by
    show (if (-2 : Int) < 0 then ((-2 : Int) + (xs.length : Int)).toNat else min (-2 : Int).toNat xs.length) = _
    rw [if_pos (by decide)]
    omega
  rw [e1, HT.sIx_none]
  refine List.take_of_length_le ?_
  rw [List.length_drop]
  omega
theorem last2_drop (es : List En) (e : En) {n : Nat} (hn : n = es.length + 1 ∧ es.length ≤ 2) : (es ++ [e]).drop (n - 2) = last2 (es ++ [e]) := by
  unfold last2
  rw [List.length_append, List.length_singleton]
  by_cases h : 2 < es.length + 1
  · rw [if_pos h, show n - 2 = 1 by omega]
  · rw [if_neg h, show n - 2 = 0 by omega]
    rfl
def midM (s p : Int) (x : Wd) (es : List En) : List En := match x with
  | .frame f w => es.filter (keep [(s, p)]) ++ [⟨s, p, f, w⟩]
  | _ => es.filter (keep [(s, p)])
theorem last2_mid (s p : Int) (x : Wd) {es : List En} (h : es.length ≤ 2) : last2 (midM s p x es) = putM s p x es := by
  have l : (es.filter (keep [(s, p)])).length ≤ 2 := Nat.le_trans (List.length_filter_le _ _) h
  cases x with
  | frame f w => rfl
  | _ => exact if_neg (by show ¬ 2 < (es.filter (keep [(s, p)])).length; omega)
theorem putM_len (s p : Int) (x : Wd) {es : List En} (h : es.length ≤ 2) : (putM s p x es).length ≤ 2 := by
  have l : (es.filter (keep [(s, p)])).length ≤ 2 := Nat.le_trans (List.length_filter_le _ _) h
  cases x with
  | frame f w =>
    show (last2 _).length ≤ 2
    unfold last2
    split
    · rw [List.length_drop, List.length_append, List.length_singleton]
      omega
    · omega
  | _ => exact l
theorem midM_len (s p : Int) (x : Wd) {es : List En} (h : es.length ≤ 2) : (midM s p x es).length ≤ 3 := by
  have l : (es.filter (keep [(s, p)])).length ≤ 2 := Nat.le_trans (List.length_filter_le _ _) h
  cases x with
  | frame f w =>
    show (_ ++ [_]).length ≤ 3
    rw [List.length_append, List.length_singleton]
    omega
  | _ => exact Nat.le_trans l (by decide)
theorem keep_one (s p : Int) (e : En) : keep [(s, p)] e = !decide ((e.s, e.p) = (s, p)) := by
  unfold keep
  simp only [List.any_cons, List.any_nil, Bool.or_false]
  by_cases h : (s, p) = (e.s, e.p)
  · rw [decide_eq_true h, decide_eq_true h.symm]
  · rw [decide_eq_false h, decide_eq_false (fun z => h z.symm)]
def fits (s p : Int) (wr : Bool) (e : En) : Bool := decide ((e.s, e.p) = (s, p)) && (e.w || !wr)
def frameM (s p : Int) (wr : Bool) (es : List En) : Option Int := (es.find? (fits s p wr)).map (·.f)
def optV : Option Int → V
  | none => .non
  | some i => .int i
theorem find_at {es : List En} {c : En → Bool} : ∀ {i : Nat} {e : En}, es[i]? = some e → (∀ y ∈ es.take i, c y = false) → c e = true → es.find? c = some e := by
  induction es with
  | nil => intro i e h _ _; simp at h
  | cons x es ih =>
    intro i e h hn hc
    cases i with
    | zero =>
      simp at h
      subst h
      simp [hc]
    | succ i =>
      have hx : c x = false := hn x (by simp)
      rw [List.find?_cons, hx]
      exact ih (i := i) (by simpa using h) (fun y hy => hn y (by simp [hy])) hc
theorem find_no {es : List En} {c : En → Bool} (h : ∀ y ∈ es, c y = false) : es.find? c = none := List.find?_eq_none.mpr fun y hy => by simp [h y hy]
end Nk
/-! Tests of data (whole numbers, tuples, words), the sizes' fields, promises that several laws share. -/
namespace Wk
open PySem PySem.Spec PyProof.Rows L2 Dk Ek Nk
/-! ### tests of data -/
def wholeD : PyData → Bool
  | .int _ => true
  | _ => false
def belowD (d : PyData) (n : Int) : Bool := match d with
  | .int i => decide (0 ≤ i) && decide (i < n)
  | _ => false
def tupD (d : PyData) (n : Int) : Bool := match d with
  | .tuple ds => decide ((ds.length : Int) = n)
  | _ => false
theorem tup2 {d : PyData} (h : tupD d 2 = true) : ∃ x y, d = .tuple [x, y] := by
  cases d with
  | tuple ds =>
    match ds, h with
    | [x, y], _ => exact ⟨x, y, rfl⟩
    | [], h => simp [tupD] at h
    | [x], h => simp [tupD] at h
    | x :: y :: z :: r, h =>
      simp only [tupD, List.length_cons, decide_eq_true_eq] at h
      omega
  | _ => simp [tupD] at h
theorem tup3 {d : PyData} (h : tupD d 3 = true) : ∃ x y z, d = .tuple [x, y, z] := by
  cases d with
  | tuple ds =>
    match ds, h with
    | [x, y, z], _ => exact ⟨x, y, z, rfl⟩
    | [], h => simp [tupD] at h
    | [x], h => simp [tupD] at h
    | [x, y], h => simp [tupD] at h
    | x :: y :: z :: u :: r, h =>
      simp only [tupD, List.length_cons, decide_eq_true_eq] at h
      omega
  | _ => simp [tupD] at h
/-- the value is the text z -/
def isS (d : PyData) (z : Str) : Bool := match d with
  | .str y => y == z
  | _ => false
theorem eqv_str (d : PyData) (z : Str) : PyData.eqv d (.str z) = isS d z := by
  cases d <;> simp [PyData.eqv, isS]
theorem isS_iff {d : PyData} {z : Str} : isS d z = true ↔ d = .str z := by
  cases d <;> simp [isS]
theorem Sh.elem {n : Nat} {ds : List PyData} {d : PyData} (h : Sh n (.tuple ds)) (m : d ∈ ds) : Sh n d := by
  have l := h.lay
  have e := h.deep
  simp only [PyData.canLay0] at l
  simp only [PyData.depth] at e
  have key : ∀ es : List PyData, d ∈ es → PyData.canLayAll0 es = true → d.canLay0 = true ∧ d.depth ≤ PyData.depthAll es := by
    intro es
    induction es with
    | nil => intro m _; exact absurd m List.not_mem_nil
    | cons x es ih =>
      intro m k
      simp only [PyData.canLayAll0, Bool.and_eq_true] at k
      simp only [PyData.depthAll]
      rcases List.mem_cons.mp m with rfl | m
      · exact ⟨k.1, Nat.le_max_left _ _⟩
      · obtain ⟨h1, h2⟩ := ih m k.2
        exact ⟨h1, Nat.le_trans h2 (Nat.le_max_right _ _)⟩
  obtain ⟨h1, h2⟩ := key ds m l
  exact ⟨h1, by omega⟩
theorem sh_str (s : Str) (h : PyData.canLay0 (.str s) = true) : Sh 0 (.str s) := ⟨h, by simp only [PyData.depth]; omega⟩
/-! ### promises of the small tests -/
def spNop (K : PySem.W.Frag) : Sp := fun vs H Q _ => ∃ (a C : Addr), vs = [.ref a] ∧ OexC K C ∧ H a = some (exo a C none) ∧ Q .non H
def spWhole (K : PySem.W.Frag) : Sp := fun vs H Q _ => ∃ (v : V) (d : PyData), vs = [v] ∧ Dp K H v d ∧ Q (.bl (wholeD d)) H
def spBelow (K : PySem.W.Frag) : Sp := fun vs H Q _ => ∃ (v : V) (d : PyData) (n : Int), vs = [v, .int n] ∧ Dp K H v d ∧ Q (.bl (belowD d n)) H
def spTupOf (K : PySem.W.Frag) : Sp := fun vs H Q _ => ∃ (v : V) (d : PyData) (n : Int), vs = [v, .int n] ∧ Dp K H v d ∧ Q (.bl (tupD d n)) H
def spBetween : Sp := fun vs H Q _ => ∃ v l m : Int, vs = [.int v, .int l, .int m] ∧ Q (.bl (decide (l ≤ v) && decide (v ≤ m))) H
/-! ### words that lead to frames -/
def leadsD : PyData → Bool
  | .tuple [x, _, _] => isS x "frame"
  | _ => false
theorem leads_no {d : PyData} (h : tupD d 3 = false) : leadsD d = false := by
  unfold leadsD
  split
  · simp [tupD] at h
  · rfl
theorem leads_yes {d : PyData} (h : leadsD d = true) : ∃ f w, d = .tuple [.str "frame", f, w] := by
  unfold leadsD at h
  split at h
  · rename_i x f w
    rw [isS_iff] at h
    exact ⟨f, w, by rw [h]⟩
  · cases h
def spLeads (K : PySem.W.Frag) : Sp := fun vs H Q _ => ∃ (y : V) (d : PyData), vs = [y] ∧ Dp K H y d ∧ Sh 60 d ∧ Q (.bl (leadsD d)) H
/-! ### the sizes -/
def szF (p f b : Int) : List (Str × V) := [("processors", .int p), ("frames", .int f), ("blocks", .int b), ("_acknowledges", .int 1), ("_words", .int (1 + p)), ("_frame_cells", .int (1 + p + 4 * 8)),
  ("_swap_blocks", .int (1 + p + 4 * 8 + 2 * f)), ("_file_blocks", .int (1 + p + 4 * 8 + 2 * f + b))]
def okSz (p f b : Int) : Bool := decide (1 ≤ p) && decide (p ≤ 3) && (decide (2 ≤ f) && decide (f ≤ 12)) && (decide (0 ≤ b) && decide (b ≤ 12))
def spSizesInit (C N : Addr) : Sp := fun vs H Q E => ∃ (z dx : Addr) (p f b : Int), vs = [.ref z, .int p, .int f, .int b] ∧ H z = some (.ins C dx []) ∧
  (okSz p f b = true → ∀ H', SameBut z H H' → H' z = some (.ins C dx (szF p f b)) → Q .non H') ∧ (okSz p f b = false → ∀ H', Same H H' → E (.ref N) none H')
/-! ### table words -/
def isStr : PyData → Bool
  | .str _ => true
  | _ => false
theorem kit_str {K : PySem.W.Frag} (d : PyData) : PySem.W.kitOne K (.type (tyN d)) (.type "str") = some (isStr d) := by
  refine (kit_ty (kits_at (by decide +kernel : kits "str" = [some false, some false, some false, some true, some false, some false, some false]) d)).trans ?_
  cases d <;> rfl
def frB (F : Int) : List PyData → Bool
  | [x, y] => belowD x F && isBool y
  | _ => false
def swB (B : Int) : List PyData → Bool
  | [x] => belowD x B
  | _ => false
def flB : List PyData → Bool
  | [x, y] => belowD x 2 && belowD y 4
  | _ => false
def wordB (F B : Int) (x : PyData) (r : List PyData) : Bool :=
  if isS x "frame" = true then frB F r else if isS x "swap" = true then swB B r else if isS x "file" = true then flB r else isS x "held" && r.isEmpty
def wordM (F B : Int) : PyData → Bool
  | .none => true
  | .tuple (x :: r) => wordB F B x r
  | _ => false
theorem frB_no {F : Int} {r : List PyData} (h : r.length ≠ 2) : frB F r = false := by
  unfold frB
  split
  · exact absurd rfl h
  · rfl
theorem swB_no {F : Int} {r : List PyData} (h : r.length ≠ 1) : swB F r = false := by
  unfold swB
  split
  · exact absurd rfl h
  · rfl
theorem flB_no {r : List PyData} (h : r.length ≠ 2) : flB r = false := by
  unfold flB
  split
  · exact absurd rfl h
  · rfl
theorem len2 {r : List PyData} (h : r.length = 2) : ∃ x y, r = [x, y] := by
  match r, h with
  | [x, y], _ => exact ⟨x, y, rfl⟩
theorem len1 {r : List PyData} (h : r.length = 1) : ∃ x, r = [x] := by
  match r, h with
  | [x], _ => exact ⟨x, rfl⟩
theorem isS_ne {d : PyData} {y z : Str} (h : isS d y = true) (n : (y == z) = false) : isS d z = false := by
  rw [isS_iff] at h
  subst h
  exact n
/-- the words whose numbers exist -/
inductive W2 where
  | frame (f : Int) (w : Bool)
  | non
  | swap (n : Int)
  | file (f p : Int)
  | held
def w2D : W2 → PyData
  | .frame f w => .tuple [.str "frame", .int f, .bool w]
  | .non => .none
  | .swap n => .tuple [.str "swap", .int n]
  | .file f p => .tuple [.str "file", .int f, .int p]
  | .held => .tuple [.str "held"]
theorem below_int {d : PyData} {n : Int} (h : belowD d n = true) : ∃ i, d = .int i := by
  cases d with
  | int i => exact ⟨i, rfl⟩
  | _ => simp [belowD] at h
theorem bool_of {d : PyData} (h : isBool d = true) : ∃ b, d = .bool b := by
  cases d with
  | bool b => exact ⟨b, rfl⟩
  | _ => simp [isBool] at h
theorem w2_of {F B : Int} {d : PyData} (h : wordM F B d = true) : ∃ x, d = w2D x := by
  unfold wordM at h
  split at h
  · exact ⟨.non, rfl⟩
  · rename_i x r
    unfold wordB at h
    split at h
    · rename_i e
      rw [isS_iff] at e
      unfold frB at h
      split at h
      · rename_i u v
        rw [Bool.and_eq_true] at h
        obtain ⟨i, rfl⟩ := below_int h.1
        obtain ⟨b, rfl⟩ := bool_of h.2
        exact ⟨.frame i b, by rw [e]; rfl⟩
      · cases h
    · split at h
      · rename_i e
        rw [isS_iff] at e
        unfold swB at h
        split at h
        · obtain ⟨i, rfl⟩ := below_int h
          exact ⟨.swap i, by rw [e]; rfl⟩
        · cases h
      · split at h
        · rename_i e
          rw [isS_iff] at e
          unfold flB at h
          split at h
          · rw [Bool.and_eq_true] at h
            obtain ⟨i, rfl⟩ := below_int h.1
            obtain ⟨j, rfl⟩ := below_int h.2
            exact ⟨.file i j, by rw [e]; rfl⟩
          · cases h
        · rw [Bool.and_eq_true, isS_iff] at h
          obtain ⟨e, e2⟩ := h
          exact ⟨.held, by rw [e, List.isEmpty_iff.mp e2]; rfl⟩
  · cases h
def W2.frame? : W2 → Option Int
  | .frame f _ => some f
  | _ => none
def W2.block? : W2 → Option Int
  | .swap n => some n
  | _ => none
def W2.wr : W2 → Bool
  | .frame _ w => w
  | _ => false
def W2.less : W2 → W2
  | .frame f _ => .frame f false
  | x => x
def W2.leads : W2 → Bool
  | .frame _ _ => true
  | _ => false
theorem leads_w2 (x : W2) : leadsD (w2D x) = x.leads := by
  cases x with
  | frame f w => rfl
  | file f p => exact (by decide : isS (.str "file") "frame" = false)
  | _ => rfl
theorem sh_c {n : Nat} {d : PyData} {ds : List PyData} (h : Sh n d) (k : ∀ x ∈ ds, Sh n x) : ∀ x ∈ d :: ds, Sh n x := fun x hx => (List.mem_cons.mp hx).elim (fun e => e ▸ h) (k x)
theorem sh_n {n : Nat} : ∀ x ∈ ([] : List PyData), Sh n x := fun _ h => absurd h List.not_mem_nil
theorem sh_w2 (x : W2) : Sh 1 (w2D x) := by
  have sF : Sh 0 (.str "frame") := sh_str _ (by decide +kernel)
  have sS : Sh 0 (.str "swap") := sh_str _ (by decide +kernel)
  have sL : Sh 0 (.str "file") := sh_str _ (by decide +kernel)
  have sH : Sh 0 (.str "held") := sh_str _ (by decide +kernel)
  cases x with
  | non => exact sh_none.up (by decide)
  | frame f w => exact sh_tup (sh_c sF (sh_c (sh_int _) (sh_c (sh_bool _) sh_n)))
  | swap n => exact sh_tup (sh_c sS (sh_c (sh_int _) sh_n))
  | file f p => exact sh_tup (sh_c sL (sh_c (sh_int _) (sh_c (sh_int _) sh_n)))
  | held => exact sh_tup (sh_c sH sh_n)
def spIsWord (K : PySem.W.Frag) (C : Addr) : Sp := fun vs H Q _ => ∃ (y : V) (d : PyData) (z dx : Addr) (p f b : Int), vs = [y, .ref z] ∧ Dp K H y d ∧ Sh 60 d ∧ H z = some (.ins C dx (szF p f b)) ∧ ∀ H', Same H H' → Q (.bl (wordM f b d)) H'
def spFrameOf (K : PySem.W.Frag) : Sp := fun vs H Q _ => ∃ (y : V) (x : W2), vs = [y] ∧ Dp K H y (w2D x) ∧ Q (optV x.frame?) H
def spBlockOf (K : PySem.W.Frag) : Sp := fun vs H Q _ => ∃ (y : V) (x : W2), vs = [y] ∧ Dp K H y (w2D x) ∧ Q (optV x.block?) H
def spIsWr (K : PySem.W.Frag) : Sp := fun vs H Q _ => ∃ (y : V) (x : W2), vs = [y] ∧ Dp K H y (w2D x) ∧ Q (.bl x.wr) H
def spReadOnly (K : PySem.W.Frag) : Sp := fun vs H Q _ => ∃ (y : V) (x : W2), vs = [y] ∧ Dp K H y (w2D x) ∧ ∀ y' H', Same H H' → Dp K H' y' (w2D x.less) → Q y' H'
end Wk
namespace K06
open PySem L2 Dk Ek Nk Wk
def top (i : Nat) : Stmt := PySem.Challenge.pw_frametally_k06_table_words.main.body.getD i (.Pass ⟨0, 0, 0, 0⟩)
abbrev s_leads_to_frame : Stmt := top 2
abbrev s_PageError_init : Stmt := inClass (top 4) 0
abbrev s_is_whole : Stmt := top 9
abbrev s_is_number_below : Stmt := top 10
abbrev s_is_tuple_of : Stmt := top 11
abbrev s_is_between : Stmt := top 16
abbrev s_Sizes_init : Stmt := inClass (top 17) 0
abbrev s_Sizes_word : Stmt := inClass (top 17) 3
abbrev s_is_word : Stmt := top 19
abbrev s_frame_of : Stmt := top 20
abbrev s_block_of : Stmt := top 21
abbrev s_is_writable : Stmt := top 22
abbrev s_read_only : Stmt := top 23
abbrev s__law_tape : Stmt := top 25
abbrev s__law_at : Stmt := top 26
abbrev s__law_value : Stmt := top 27
abbrev s__law_number : Stmt := top 28
abbrev s__law_is : Stmt := top 29
abbrev s__law_none : Stmt := top 30
abbrev s_law : Stmt := top 31
theorem sc_leads_to_frame : FnScope ["word"] ["word"] (defScope s_leads_to_frame) := ⟨rfl, rfl, rfl, by decide +kernel, rfl, by decide +kernel, by decide +kernel⟩
theorem sc_PageError_init : FnScope ["self"] ["self"] (defScope s_PageError_init) := ⟨rfl, rfl, rfl, by decide +kernel, rfl, by decide +kernel, by decide +kernel⟩
theorem sc_is_whole : FnScope ["value"] ["value"] (defScope s_is_whole) := ⟨rfl, rfl, rfl, by decide +kernel, rfl, by decide +kernel, by decide +kernel⟩
theorem sc_is_number_below : FnScope ["value", "many"] ["value", "many"] (defScope s_is_number_below) := ⟨rfl, rfl, rfl, by decide +kernel, rfl, by decide +kernel, by decide +kernel⟩
theorem sc_is_tuple_of : FnScope ["value", "many"] ["value", "many"] (defScope s_is_tuple_of) := ⟨rfl, rfl, rfl, by decide +kernel, rfl, by decide +kernel, by decide +kernel⟩
theorem sc_is_between : FnScope ["value", "least", "most"] ["value", "least", "most"] (defScope s_is_between) := ⟨rfl, rfl, rfl, by decide +kernel, rfl, by decide +kernel, by decide +kernel⟩
theorem sc_Sizes_init : FnScope ["self", "processors", "frames", "blocks"] ["self", "processors", "frames", "blocks"] (defScope s_Sizes_init) := ⟨rfl, rfl, rfl, by decide +kernel, rfl, by decide +kernel, by decide +kernel⟩
theorem sc_Sizes_word : FnScope ["self", "space", "page"] ["self", "space", "page"] (defScope s_Sizes_word) := ⟨rfl, rfl, rfl, by decide +kernel, rfl, by decide +kernel, by decide +kernel⟩
theorem sc_is_word : FnScope ["value", "sizes"] ["value", "sizes"] (defScope s_is_word) := ⟨rfl, rfl, rfl, by decide +kernel, rfl, by decide +kernel, by decide +kernel⟩
theorem sc_frame_of : FnScope ["word"] ["word"] (defScope s_frame_of) := ⟨rfl, rfl, rfl, by decide +kernel, rfl, by decide +kernel, by decide +kernel⟩
theorem sc_block_of : FnScope ["word"] ["word"] (defScope s_block_of) := ⟨rfl, rfl, rfl, by decide +kernel, rfl, by decide +kernel, by decide +kernel⟩
theorem sc_is_writable : FnScope ["word"] ["word"] (defScope s_is_writable) := ⟨rfl, rfl, rfl, by decide +kernel, rfl, by decide +kernel, by decide +kernel⟩
theorem sc_read_only : FnScope ["word"] ["word"] (defScope s_read_only) := ⟨rfl, rfl, rfl, by decide +kernel, rfl, by decide +kernel, by decide +kernel⟩
theorem sc__law_tape : FnScope ["script", "tape", "k", "value", "step"] ["script"] (defScope s__law_tape) := ⟨rfl, rfl, rfl, by decide +kernel, rfl, by decide +kernel, by decide +kernel⟩
theorem sc__law_at : FnScope ["tape", "k"] ["tape", "k"] (defScope s__law_at) := ⟨rfl, rfl, rfl, by decide +kernel, rfl, by decide +kernel, by decide +kernel⟩
theorem sc__law_value : FnScope ["number", "pick", "near", "menu"] ["number", "pick"] (defScope s__law_value) := ⟨rfl, rfl, rfl, by decide +kernel, rfl, by decide +kernel, by decide +kernel⟩
theorem sc__law_number : FnScope ["value", "many"] ["value", "many"] (defScope s__law_number) := ⟨rfl, rfl, rfl, by decide +kernel, rfl, by decide +kernel, by decide +kernel⟩
theorem sc__law_is : FnScope ["value", "frames", "blocks"] ["value", "frames", "blocks"] (defScope s__law_is) := ⟨rfl, rfl, rfl, by decide +kernel, rfl, by decide +kernel, by decide +kernel⟩
theorem sc__law_none : FnScope ["told", "due"] ["told", "due"] (defScope s__law_none) := ⟨rfl, rfl, rfl, by decide +kernel, rfl, by decide +kernel, by decide +kernel⟩
theorem sc_law : FnScope ["script", "tape", "frames", "blocks", "sizes", "k", "value", "due", "told", "frame", "block", "writable", "less", "may"] ["script"] (defScope s_law) := ⟨rfl, rfl, rfl, by decide +kernel, rfl, by decide +kernel, by decide +kernel⟩
structure Ad where
  (C_PageError C_NotValid C_Sizes f_leads_to_frame f_PageError_init f_is_whole f_is_number_below f_is_tuple_of f_is_between f_Sizes_init f_Sizes_word f_is_word f_frame_of f_block_of f_is_writable f_read_only f__law_tape f__law_at f__law_value f__law_number f__law_is f__law_none f_law : Addr)
  (d_leads_to_frame d_PageError_init d_is_whole d_is_number_below d_is_tuple_of d_is_between d_Sizes_init d_Sizes_word d_is_word d_frame_of d_block_of d_is_writable d_read_only d__law_tape d__law_at d__law_value d__law_number d__law_is d__law_none d_law : FuncData)
structure Txt (K : PySem.W.Frag) (mg : Str → Option Value) (a : Ad) : Prop where
  m_PageError : mg "PageError" = some (.ref a.C_PageError)
  m_NotValid : mg "NotValid" = some (.ref a.C_NotValid)
  m_Sizes : mg "Sizes" = some (.ref a.C_Sizes)
  F_leads_to_frame : Fun K "leads_to_frame" "leads_to_frame" s_leads_to_frame a.f_leads_to_frame a.d_leads_to_frame
  B_leads_to_frame : Binds K a.d_leads_to_frame ["word"] []
  m_leads_to_frame : mg "leads_to_frame" = some (.ref a.f_leads_to_frame)
  F_PageError_init : Fun K "__init__" "PageError.__init__" s_PageError_init a.f_PageError_init a.d_PageError_init
  B_PageError_init : Binds K a.d_PageError_init ["self"] []
  F_is_whole : Fun K "is_whole" "is_whole" s_is_whole a.f_is_whole a.d_is_whole
  B_is_whole : Binds K a.d_is_whole ["value"] []
  m_is_whole : mg "is_whole" = some (.ref a.f_is_whole)
  F_is_number_below : Fun K "is_number_below" "is_number_below" s_is_number_below a.f_is_number_below a.d_is_number_below
  B_is_number_below : Binds K a.d_is_number_below ["value", "many"] []
  m_is_number_below : mg "is_number_below" = some (.ref a.f_is_number_below)
  F_is_tuple_of : Fun K "is_tuple_of" "is_tuple_of" s_is_tuple_of a.f_is_tuple_of a.d_is_tuple_of
  B_is_tuple_of : Binds K a.d_is_tuple_of ["value", "many"] []
  m_is_tuple_of : mg "is_tuple_of" = some (.ref a.f_is_tuple_of)
  F_is_between : Fun K "is_between" "is_between" s_is_between a.f_is_between a.d_is_between
  B_is_between : Binds K a.d_is_between ["value", "least", "most"] []
  m_is_between : mg "is_between" = some (.ref a.f_is_between)
  F_Sizes_init : Fun K "__init__" "Sizes.__init__" s_Sizes_init a.f_Sizes_init a.d_Sizes_init
  B_Sizes_init : Binds K a.d_Sizes_init ["self", "processors", "frames", "blocks"] []
  F_Sizes_word : Fun K "word" "Sizes.word" s_Sizes_word a.f_Sizes_word a.d_Sizes_word
  B_Sizes_word : Binds K a.d_Sizes_word ["self", "space", "page"] []
  M_Sizes_word : Meth K a.C_Sizes "word" a.f_Sizes_word
  F_is_word : Fun K "is_word" "is_word" s_is_word a.f_is_word a.d_is_word
  B_is_word : Binds K a.d_is_word ["value", "sizes"] []
  m_is_word : mg "is_word" = some (.ref a.f_is_word)
  F_frame_of : Fun K "frame_of" "frame_of" s_frame_of a.f_frame_of a.d_frame_of
  B_frame_of : Binds K a.d_frame_of ["word"] []
  m_frame_of : mg "frame_of" = some (.ref a.f_frame_of)
  F_block_of : Fun K "block_of" "block_of" s_block_of a.f_block_of a.d_block_of
  B_block_of : Binds K a.d_block_of ["word"] []
  m_block_of : mg "block_of" = some (.ref a.f_block_of)
  F_is_writable : Fun K "is_writable" "is_writable" s_is_writable a.f_is_writable a.d_is_writable
  B_is_writable : Binds K a.d_is_writable ["word"] []
  m_is_writable : mg "is_writable" = some (.ref a.f_is_writable)
  F_read_only : Fun K "read_only" "read_only" s_read_only a.f_read_only a.d_read_only
  B_read_only : Binds K a.d_read_only ["word"] []
  m_read_only : mg "read_only" = some (.ref a.f_read_only)
  F__law_tape : Fun K "_law_tape" "_law_tape" s__law_tape a.f__law_tape a.d__law_tape
  B__law_tape : Binds K a.d__law_tape ["script"] []
  m__law_tape : mg "_law_tape" = some (.ref a.f__law_tape)
  F__law_at : Fun K "_law_at" "_law_at" s__law_at a.f__law_at a.d__law_at
  B__law_at : Binds K a.d__law_at ["tape", "k"] []
  m__law_at : mg "_law_at" = some (.ref a.f__law_at)
  F__law_value : Fun K "_law_value" "_law_value" s__law_value a.f__law_value a.d__law_value
  B__law_value : Binds K a.d__law_value ["number", "pick"] []
  m__law_value : mg "_law_value" = some (.ref a.f__law_value)
  F__law_number : Fun K "_law_number" "_law_number" s__law_number a.f__law_number a.d__law_number
  B__law_number : Binds K a.d__law_number ["value", "many"] []
  m__law_number : mg "_law_number" = some (.ref a.f__law_number)
  F__law_is : Fun K "_law_is" "_law_is" s__law_is a.f__law_is a.d__law_is
  B__law_is : Binds K a.d__law_is ["value", "frames", "blocks"] []
  m__law_is : mg "_law_is" = some (.ref a.f__law_is)
  F__law_none : Fun K "_law_none" "_law_none" s__law_none a.f__law_none a.d__law_none
  B__law_none : Binds K a.d__law_none ["told", "due"] []
  m__law_none : mg "_law_none" = some (.ref a.f__law_none)
  F_law : Fun K "law" "law" s_law a.f_law a.d_law
  B_law : Binds K a.d_law ["script"] []
  m_law : mg "law" = some (.ref a.f_law)
  c_Sizes : Cls K a.C_Sizes
  mk_Sizes : Mk K a.C_Sizes a.f_Sizes_init
  n_Sizes_processors : NoAttr K a.C_Sizes "processors"
  n_Sizes_frames : NoAttr K a.C_Sizes "frames"
  n_Sizes_blocks : NoAttr K a.C_Sizes "blocks"
  n_Sizes__acknowledges : NoAttr K a.C_Sizes "_acknowledges"
  n_Sizes__words : NoAttr K a.C_Sizes "_words"
  n_Sizes__frame_cells : NoAttr K a.C_Sizes "_frame_cells"
  n_Sizes__swap_blocks : NoAttr K a.C_Sizes "_swap_blocks"
  n_Sizes__file_blocks : NoAttr K a.C_Sizes "_file_blocks"
  k_CELLS : ∃ u, mg "CELLS" = some u ∧ RelV (.int 2) u
  k_FILES : ∃ u, mg "FILES" = some u ∧ RelV (.int 2) u
  k_FILE_PAGES : ∃ u, mg "FILE_PAGES" = some u ∧ RelV (.int 4) u
  k_PAGES : ∃ u, mg "PAGES" = some u ∧ RelV (.int 8) u
  k_SPACES : ∃ u, mg "SPACES" = some u ∧ RelV (.int 4) u
  b_ValueError : mg "ValueError" = none
  b_abs : mg "abs" = none
  b_bool : mg "bool" = none
  b_int : mg "int" = none
  b_isinstance : mg "isinstance" = none
  b_len : mg "len" = none
  b_min : mg "min" = none
  b_range : mg "range" = none
  b_str : mg "str" = none
  b_tuple : mg "tuple" = none
  vV : PySem.W.findCls K (.type "ValueError") (.type "type") "__init__" = some (.val (.builtin "ValueError.__init__"))
  xi_NotValid : PySem.W.findIn K (.ref a.C_NotValid) "__init__" = some (some (.ref a.f_PageError_init))
  xt_NotValid : PySem.W.typeIn K (.ref a.f_PageError_init) = some (.type "function")
  xs_NotValid : PySem.W.findIn K (.ref a.C_NotValid) "__setattr__" = some (some (.builtin "object.__setattr__"))
  xb_NotValid : PySem.W.subIn K (.ref a.C_NotValid) (.type "BaseException") = some true
  xy_NotValid : PySem.W.typeIn K (.ref a.C_NotValid) = some (.type "type")
  xk_NotValid : PySem.W.keepIn K (.ref a.C_NotValid) = true
  e1 : PySem.W.findIn K (.ref a.C_NotValid) "__getattribute__" = some (some (.builtin "BaseException.__getattribute__"))
  e2 : PySem.W.findIn K (.ref a.C_NotValid) "__getattr__" = some none
  e4 : PySem.W.hasDictIn K a.C_NotValid = true
  e5 : PySem.W.findIn K (.ref a.C_NotValid) "__class__" = some (some (.builtin "object.__class__"))
  e6 : PySem.W.specialIn K (.builtin "object.__class__") "__get__" = some (some (.builtin "getset_descriptor.__get__"))
  e7 : PySem.W.takesIn K (.builtin "object.__class__") = some true
  e8 : PySem.W.mroIn K a.C_NotValid (.type "object") = some true
  p1 : PySem.W.subIn K (.ref a.C_PageError) (.type "BaseException") = some true
  p2 : PySem.W.hasDictIn K a.C_PageError = true
  p3 : PySem.W.typeIn K (.ref a.C_PageError) = some (.type "type")
  p4 : PySem.W.subIn K (.ref a.C_NotValid) (.ref a.C_PageError) = some true
  q4 : PySem.W.kitOne K (.ref a.C_NotValid) (.ref a.C_NotValid) = some true
  x_NotValid : OexC K a.C_NotValid
  e_NotValid : ExcC K a.C_NotValid
/-! ### the tape: what it holds does not matter, only that it holds few numbers from 0 to 999 -/
def Dig (ts : List Int) : Prop := ∀ t ∈ ts, 0 ≤ t ∧ t < 1000
theorem Dig.nil : Dig [] := fun _ h => absurd h List.not_mem_nil
theorem Dig.snoc {ts : List Int} {x : Int} (h : Dig ts) (h0 : 0 ≤ x) (h1 : x < 1000) : Dig (ts ++ [x]) := fun t ht => by
  rcases List.mem_append.mp ht with ht | ht
  · exact h t ht
  · rw [List.mem_singleton.mp ht]
    exact ⟨h0, h1⟩
def spTape (K : PySem.W.Frag) : Sp := fun vs H Q _ => ∃ (p : Addr) (ns : List Int), vs = [.ref p] ∧ SqL K H p (ns.map V.int) ∧ ns.length ≤ 63 ∧
  ∀ (H' : Hp) (t : Addr) (ts : List Int), Same H H' → H t = none → H' t = some (.lst (ts.map V.int)) → Dig ts → ts.length ≤ 3780 → Q (.ref t) H'
def spAt (K : PySem.W.Frag) : Sp := fun vs H Q _ => ∃ (t : Addr) (ts : List Int) (k : Int), vs = [.ref t, .int k] ∧ SqL K H t (ts.map V.int) ∧ 0 ≤ k ∧ Dig ts ∧ ∀ x : Int, 0 ≤ x → x < 1000 → Q (.int x) H
section
variable {P : Program} {w : World} {K : PySem.W.Frag} {mg : Str → Option Value} {base : Heap} {a : Ad}
theorem mod1000 (v : Int) : 0 ≤ v % 1000 ∧ v % 1000 < 1000 := ⟨Int.emod_nonneg _ (by decide), Int.emod_lt_of_pos _ (by decide)⟩
theorem snoc_int (ts : List Int) (x : Int) : ts.map V.int ++ [V.int x] = (ts ++ [x]).map V.int := by rw [List.map_append]; rfl
theorem ok__law_tape (T : Txt K mg a) : FnOk P w K mg base CX0 1 a.f__law_tape a.d__law_tape ["script"] (spTape K) := by
  refine T.F__law_tape.ok sc__law_tape (fun vs H Q E h => ?_) (fun cdv A outer s H vs Q E hr h => ?_)
  · obtain ⟨p, ns, rfl, _⟩ := h
    rfl
  · obtain ⟨sp, ns, rfl, hS, hlen, q⟩ := h
    refine ⟨_, (pss_cons (ps_set (i := 1) sc__law_tape.nd rfl (Or.inl rfl) (pe_lst pa_nil))
    (pss_cons (ps_for PassesOwn.never rfl (pi_range1 rfl T.b_range (pa_cons (pe_callB call_len_seq (by rfl) T.b_len (by decide +kernel) (pa_cons (pv 0) pa_nil)) pa_nil)) (pg_name (i := 2) sc__law_tape.nd rfl (Or.inl rfl))
    (pss_cons (ps_set (i := 3) sc__law_tape.nd rfl (Or.inl rfl) (pe_callB call_abs (by rfl) T.b_abs (by decide +kernel) (pa_cons (pe_callTy call_int1 (by rfl) T.b_int (by decide +kernel) (pa_cons (pe_ix ix_list (pv 0) (pv 2) (fun _ _ => rfl)) pa_nil)) pa_nil)))
    (pss_one (ps_if (pt_cmpR (op_ge) (pv 3) (pe_op op_pow pe_int pe_int) (nomark _)) (pss_one (ps_for PassesOwn.never rfl (pi_range1 rfl T.b_range (pa_cons pe_int pa_nil)) (pg_name (i := 4) sc__law_tape.nd rfl (Or.inl rfl))
    (pss_one (ps_if (pt_cmpR (op_gt) (pv 3) pe_int (nomark _)) (pss_cons (ps_expr (pe_bm PySem.F.plainAttrs_list PySem.F.slot_list_append PySem.F.type_list_append mt_append (pv 1) (pa_cons (pe_op op_mod (pv 3) pe_int) pa_nil)))
    (pss_one (ps_set (i := 3) sc__law_tape.nd rfl (Or.inl rfl) (pe_op op_fdiv (pv 3) pe_int)))) pss_nil)))) (pss_one (ps_for PassesOwn.never rfl (pi_range1 rfl T.b_range (pa_cons pe_int pa_nil)) (pg_name (i := 4) sc__law_tape.nd rfl (Or.inl rfl))
    (pss_cons (ps_set (i := 3) sc__law_tape.nd rfl (Or.inl rfl) (pe_op op_mod (pe_op op_add (pe_op op_add (pe_op op_mul (pv 3) pe_int) (pe_op op_mul pe_int (pe_op op_add (pv 2) pe_int))) (pe_op op_mul pe_int (pv 4))) pe_int))
    (pss_cons (ps_set (i := 3) sc__law_tape.nd rfl (Or.inl rfl) (pe_op op_mod (pe_op op_mul (pv 3) pe_int) pe_int))
    (pss_one (ps_expr (pe_bm PySem.F.plainAttrs_list PySem.F.slot_list_append PySem.F.type_list_append mt_append (pv 1) (pa_cons (pe_op op_mod (pe_op op_fdiv (pv 3) pe_int) pe_int) pa_nil))))))))))))
    (pss_one (ps_ret (pv 1))))), ?_⟩
    have len0 : ((List.length (ns.map V.int) : Nat) : Int) ≤ 63 := by rw [List.length_map]; omega
    refine ⟨Nat.zero_le _, fun p hp => ?_⟩
    refine ⟨_, rfl, sp, _, rfl, .inl ((Same.new hp).seq hS), _, rfl, by omega, by omega,
      for_range (lo := 0) (n := ((List.length (ns.map V.int) : Nat) : Int).toNat)
        (fun i σ H' => ∃ (x2 x3 x4 : Option V) (ts : List Int), σ = [some (.ref sp), some (.ref p), x2, x3, x4] ∧ Same H H' ∧ H' p = some (.lst (ts.map V.int)) ∧ Dig ts ∧ ts.length ≤ 60 * i)
        ⟨none, none, none, [], rfl, Same.new hp, upd_same, Dig.nil, Nat.le_refl _⟩ ?_ ?_⟩
    · rintro i σ H' hi ⟨x2, x3, x4, ts, rfl, eS, hL, dg, hl⟩
      rw [List.length_map] at hi
      have hi2 : i < ns.length := by omega
      refine ⟨_, rfl, _, rfl, _, _, _, .int ns[i], rfl, rfl, eS.seq hS, at_of (j := i) (by omega) (by rw [List.getElem?_map, List.getElem?_eq_getElem hi2]; rfl), ?_⟩
      refine .inl ⟨_, rfl, _, rfl, ?_⟩
      refine ⟨_, rfl, _, _, rfl, rfl, ⟨by decide, by decide, by decide⟩, _, _, rfl, rfl, _, rfl, ?_⟩
      refine ite2 (fun c => ?_) (fun c => ?_)
      · refine ⟨60, rfl, by decide, by decide, for_range (lo := 0) (n := (60 : Int).toNat)
          (fun j σ H' => ∃ (v : Int) (x4 : Option V) (ts : List Int), σ = [some (.ref sp), some (.ref p), some (.int (0 + (i : Int))), some (.int v), x4] ∧ Same H H' ∧ H' p = some (.lst (ts.map V.int)) ∧ Dig ts ∧ ts.length ≤ 60 * i + j)
          ⟨_, _, ts, rfl, eS, hL, dg, hl⟩ ?_ ?_⟩
        · rintro j σ H2 hj ⟨v, x4, ts, rfl, eS, hL, dg, hl⟩
          refine ⟨_, rfl, _, _, rfl, rfl, _, rfl, ?_⟩
          have hj2 : j < 60 := hj
          refine ite2 (fun c2 => ?_) (fun c2 => ?_)
          · obtain ⟨m0, m1⟩ := mod1000 v
            refine ⟨_, rfl, .inl ⟨rfl, _, SqL.of hL⟩, _, rfl, _, _, rfl, rfl, (by show (0 : Int) < 1000; decide), p, _, _, rfl, rfl, hL, ?_, ?_⟩
            · rw [List.length_map]
              exact Nat.lt_of_le_of_lt (by omega : ts.length ≤ 4000) (by decide)
            · refine ⟨_, rfl, _, _, rfl, rfl, ⟨by decide, by decide⟩, ?_⟩
              refine ⟨_, _, ts ++ [v % 1000], rfl, Same.put eS hp, ?_, dg.snoc m0 m1, ?_⟩
              · rw [upd_same, snoc_int]
              · rw [List.length_append, List.length_singleton]
                omega
          · exact ⟨v, _, ts, rfl, eS, hL, dg, by omega⟩
        · rintro σ H2 ⟨v, x4, ts, rfl, eS, hL, dg, hl⟩
          exact ⟨_, _, _, ts, rfl, eS, hL, dg, by simp at hl; omega⟩
      · refine ⟨4, rfl, by decide, by decide, for_range (lo := 0) (n := (4 : Int).toNat)
          (fun j σ H' => ∃ (v : Int) (x4 : Option V) (ts : List Int), σ = [some (.ref sp), some (.ref p), some (.int (0 + (i : Int))), some (.int v), x4] ∧ Same H H' ∧ H' p = some (.lst (ts.map V.int)) ∧ Dig ts ∧ ts.length ≤ 60 * i + j)
          ⟨_, _, ts, rfl, eS, hL, dg, hl⟩ ?_ ?_⟩
        · rintro j σ H2 hj ⟨v, x4, ts, rfl, eS, hL, dg, hl⟩
          have hj2 : j < 4 := hj
          refine ⟨_, rfl, _, _, rfl, rfl, .inr ⟨by decide, by decide⟩, _, rfl, _, _, rfl, rfl, _, _, rfl, rfl, .inl ⟨by decide, by decide⟩, _, _, rfl, rfl, _, rfl, _, _, rfl, rfl, .inl ⟨by decide, by decide⟩,
            _, _, rfl, rfl, _, _, rfl, rfl, (by show (0 : Int) < 2147483647; decide), ?_⟩
          refine ⟨_, rfl, _, _, rfl, rfl, .inr ⟨by decide, by decide⟩, _, _, rfl, rfl, (by show (0 : Int) < 2147483647; decide), ?_⟩
          refine ⟨_, rfl, .inl ⟨rfl, _, SqL.of hL⟩, _, rfl, _, _, rfl, rfl, ⟨by decide, by decide⟩, _, _, rfl, rfl, (by show (0 : Int) < 1000; decide), p, _, _, rfl, rfl, hL, ?_, ?_⟩
          · rw [List.length_map]
            exact Nat.lt_of_le_of_lt (by omega : ts.length ≤ 4000) (by decide)
          · refine ⟨_, _, ts ++ [((v * 48271 + 69621 * (0 + (i : Int) + 1) + 7 * (0 + (j : Int))) % 2147483647 * 16807 % 2147483647 / 1000) % 1000], rfl, Same.put eS hp, ?_, dg.snoc (mod1000 _).1 (mod1000 _).2, ?_⟩
            · rw [upd_same, snoc_int]
            · rw [List.length_append, List.length_singleton]
              omega
        · rintro σ H2 ⟨v, x4, ts, rfl, eS, hL, dg, hl⟩
          exact ⟨_, _, _, ts, rfl, eS, hL, dg, by simp at hl; omega⟩
    · rintro σ H' ⟨x2, x3, x4, ts, rfl, eS, hL, dg, hl⟩
      refine ⟨_, rfl, q H' p ts eS hp hL dg ?_⟩
      omega
theorem ok__law_at (T : Txt K mg a) : FnOk P w K mg base CX0 1 a.f__law_at a.d__law_at ["tape", "k"] (spAt K) := by
  refine T.F__law_at.ok sc__law_at (fun vs H Q E h => ?_) (fun cdv A outer s H vs Q E hr h => ?_)
  · obtain ⟨t, ts, k, rfl, _⟩ := h
    rfl
  · obtain ⟨t, ts, k, rfl, hS, hk, dg, q⟩ := h
    refine ⟨_, (pss_cons (ps_if (pt_cmpR (op_lt) (pv 1) (pe_callB call_len_seq (by rfl) T.b_len (by decide +kernel) (pa_cons (pv 0) pa_nil)) (nomark _)) (pss_one (ps_ret (pe_ix ix_list (pv 0) (pv 1) (fun _ _ => rfl)))) pss_nil)
    (pss_one (ps_ret pe_int))), ?_⟩
    refine ⟨_, rfl, _, rfl, t, _, rfl, .inl hS, _, _, rfl, rfl, _, rfl, ?_⟩
    refine ite2 (fun c => ?_) (fun c => ?_)
    · have hk2 : k.toNat < ts.length := by
        rw [List.length_map] at c
        have c2 := of_decide_eq_true c
        omega
      obtain ⟨h0, h1⟩ := dg ts[k.toNat] (List.getElem_mem _)
      refine ⟨_, rfl, _, rfl, t, _, _, .int ts[k.toNat], rfl, rfl, hS, at_of (j := k.toNat) (by omega) (by rw [List.getElem?_map, List.getElem?_eq_getElem hk2]; rfl), q _ h0 h1⟩
    · exact q 0 (by decide) (by decide)
end

section
variable {P : Program} {w : World} {K : PySem.W.Frag} {mg : Str → Option Value} {base : Heap} {a : Ad}
theorem ok_is_whole (T : Txt K mg a) : FnOk P w K mg base CX0 1 a.f_is_whole a.d_is_whole ["value"] (spWhole K) := by
  refine T.F_is_whole.ok sc_is_whole (fun vs H Q E h => ?_) (fun cdv A outer s H vs Q E hr h => ?_)
  · obtain ⟨v, d, rfl, _⟩ := h
    rfl
  · obtain ⟨v, d, rfl, hd, q⟩ := h
    refine ⟨_, (pss_one (ps_ret (pe_and (pe_callB call_isi (by rfl) T.b_isinstance (by decide +kernel) (pa_cons (pv 0) (pa_cons (pe_bltn (v := .ty "int") rfl T.b_int (by decide +kernel) rfl) pa_nil))) (pe_one (pe_not (pe_callB call_isi (by rfl) T.b_isinstance (by decide +kernel) (pa_cons (pv 0) (pa_cons (pe_bltn (v := .ty "bool") rfl T.b_bool (by decide +kernel) rfl) pa_nil)))))))), ?_⟩
    have ty := tyx hd
    refine ⟨_, rfl, _, _, _, _, _, rfl, .ty _, ty, kit_int d, _, rfl, ?_⟩
    cases d with
    | int i => exact iteT ⟨_, rfl, _, _, _, _, _, rfl, .ty _, ty, kit_bool _, _, rfl, q⟩
    | bool b => exact iteT ⟨_, rfl, _, _, _, _, _, rfl, .ty _, ty, kit_bool _, _, rfl, q⟩
    | none => exact iteF q
    | str x => exact iteF q
    | list xs => exact iteF q
    | tuple xs => exact iteF q
    | dict xs => exact iteF q
theorem ok_is_number_below (T : Txt K mg a) : FnOk P w K mg base CX0 2 a.f_is_number_below a.d_is_number_below ["value", "many"] (spBelow K) := by
  refine T.F_is_number_below.ok sc_is_number_below (fun vs H Q E h => ?_) (fun cdv A outer s H vs Q E hr h => ?_)
  · obtain ⟨v, d, n, rfl, _⟩ := h
    rfl
  · obtain ⟨v, d, n, rfl, hd, q⟩ := h
    refine ⟨_, (pss_one (ps_ret (pe_and (pe_call (ok_is_whole T) (hr.mono (by decide)) rfl T.m_is_whole T.F_is_whole.kp T.B_is_whole .nil pass0 (pa_cons (pv 0) pa_nil)) (pe_one (pe_chain (op_le) (op_lt) pe_int (pv 0) (pv 1)))))), ?_⟩
    refine ⟨_, rfl, _, d, rfl, hd, _, rfl, ?_⟩
    cases d with
    | int i =>
      cases hd
      refine iteT ⟨_, rfl, _, _, rfl, rfl, _, rfl, ?_⟩
      refine ite2 (fun c => ?_) (fun c => ?_)
      · refine ⟨_, rfl, _, _, rfl, rfl, ?_⟩
        have e : belowD (.int i) n = decide (i < n) := by simp only [belowD, c, Bool.true_and]
        rw [e] at q
        exact q
      · have e : belowD (.int i) n = false := by simp only [belowD, Bool.eq_false_iff.mpr c, Bool.false_and]
        rw [e] at q
        exact q
    | bool b => exact iteF q
    | none => exact iteF q
    | str x => exact iteF q
    | list xs => exact iteF q
    | tuple xs => exact iteF q
    | dict xs => exact iteF q

theorem ok_is_tuple_of (T : Txt K mg a) : FnOk P w K mg base CX0 1 a.f_is_tuple_of a.d_is_tuple_of ["value", "many"] (spTupOf K) := by
  refine T.F_is_tuple_of.ok sc_is_tuple_of (fun vs H Q E h => ?_) (fun cdv A outer s H vs Q E hr h => ?_)
  · obtain ⟨v, d, n, rfl, _⟩ := h
    rfl
  · obtain ⟨v, d, n, rfl, hd, q⟩ := h
    refine ⟨_, (pss_one (ps_ret (pe_and (pe_callB call_isi (by rfl) T.b_isinstance (by decide +kernel) (pa_cons (pv 0) (pa_cons (pe_bltn (v := .ty "tuple") rfl T.b_tuple (by decide +kernel) rfl) pa_nil))) (pe_one (pe_cmpR (op_eq) (pe_callB call_len_seq (by rfl) T.b_len (by decide +kernel) (pa_cons (pv 0) pa_nil)) (pv 1) (nomark _)))))), ?_⟩
    have ty := tyx hd
    refine ⟨_, rfl, _, _, _, _, _, rfl, .ty _, ty, kit_tup d, _, rfl, ?_⟩
    cases d with
    | tuple ds =>
      cases hd with
      | @tup p xs _ s1 q1 =>
        refine iteT ⟨_, rfl, _, _, rfl, .inr s1, _, rfl, rfl, ?_⟩
        have e : decide (V.int (xs.length : Int) = V.int n) = tupD (.tuple ds) n := by
          simp only [tupD, dpAll_len q1, V.int.injEq]
        rw [e]
        exact q
    | int b => exact iteF q
    | bool b => exact iteF q
    | none => exact iteF q
    | str x => exact iteF q
    | list xs => exact iteF q
    | dict xs => exact iteF q

theorem ok_leads_to_frame (T : Txt K mg a) : FnOk P w K mg base CX0 1 a.f_leads_to_frame a.d_leads_to_frame ["word"] (spLeads K) := by
  refine T.F_leads_to_frame.ok sc_leads_to_frame (fun vs H Q E h => ?_) (fun cdv A outer s H vs Q E hr h => ?_)
  · obtain ⟨y, d, rfl, _⟩ := h
    rfl
  · obtain ⟨y, d, rfl, hy, sh, q⟩ := h
    refine ⟨_, (pss_one (ps_ret (pe_and (pe_callB call_isi (by rfl) T.b_isinstance (by decide +kernel) (pa_cons (pv 0) (pa_cons (pe_bltn (v := .ty "tuple") rfl T.b_tuple (by decide +kernel) rfl) pa_nil))) (pe_and (pe_cmpR (op_eq) (pe_callB call_len_seq (by rfl) T.b_len (by decide +kernel) (pa_cons (pv 0) pa_nil)) pe_int (nomark _)) (pe_one (pe_cmpR (op_eqD hr.units) (pe_ix ix_tup (pv 0) pe_int (fun _ _ => rfl)) pe_str (nomark _))))))), ?_⟩
    refine ⟨_, rfl, _, _, _, _, _, rfl, .ty _, tyx hy, kit_tup _, _, rfl, ?_⟩
    cases d with
    | tuple ds =>
      cases hy with
      | @tup t xs _ sT aT =>
        refine iteT ⟨_, rfl, _, _, rfl, .inr sT, rfl, _, rfl, ?_⟩
        cases e : tupD (.tuple ds) 3 with
        | false =>
          rw [leads_no e] at q
          refine ifF ?_ q
          have el := dpAll_len aT
          simp only [tupD, decide_eq_false_iff_not] at e
          simp only [V.int.injEq, decide_eq_false_iff_not, el]
          exact e
        | true =>
          obtain ⟨x, y, z, e2⟩ := tup3 e
          injection e2 with e2
          subst e2
          cases aT with
          | cons d0 aT =>
          cases aT with
          | cons d1 aT =>
          cases aT with
          | cons d2 aT =>
          cases aT
          refine iteT ⟨_, rfl, _, _, _, _, rfl, rfl, sT, at_of (j := 0) rfl rfl, _, _, d0, .str _, (Sh.elem sh (by simp)).ok, (sh_str _ (by decide +kernel)).ok, ?_⟩
          rw [eqv_str]
          exact q
    | none => exact iteF q
    | bool b => exact iteF q
    | int i => exact iteF q
    | str x => exact iteF q
    | list xs => exact iteF q
    | dict xs => exact iteF q

theorem ok_PageError_init (T : Txt K mg a) : FnOk P w K mg base CX0 1 a.f_PageError_init a.d_PageError_init ["self"] (spNop K) := by
  refine T.F_PageError_init.ok sc_PageError_init (fun vs H Q E h => ?_) (fun cdv A outer s H vs Q E hr h => ?_)
  · obtain ⟨x, C, rfl, _⟩ := h
    rfl
  · obtain ⟨x, C, rfl, hC, hx, q⟩ := h
    refine ⟨_, (pss_one (ps_expr (pe_veinit rfl T.b_ValueError T.vV (pa_cons (pv 0) pa_nil)))), ?_⟩
    exact ⟨_, rfl, x, C, [], rfl, Nat.zero_le _, hC, hx, q⟩
theorem ok_is_between (T : Txt K mg a) : FnOk P w K mg base CX0 2 a.f_is_between a.d_is_between ["value", "least", "most"] (spBetween) := by
  refine T.F_is_between.ok sc_is_between (fun vs H Q E h => ?_) (fun cdv A outer s H vs Q E hr h => ?_)
  · obtain ⟨v, l, m, rfl, _⟩ := h
    rfl
  · obtain ⟨v, l, m, rfl, q⟩ := h
    refine ⟨_, (pss_one (ps_ret (pe_and (pe_call (ok_is_whole T) (hr.mono (by decide)) rfl T.m_is_whole T.F_is_whole.kp T.B_is_whole .nil pass0 (pa_cons (pv 0) pa_nil)) (pe_one (pe_chain (op_le) (op_le) (pv 1) (pv 0) (pv 2)))))), ?_⟩
    refine ⟨_, rfl, _, .int v, rfl, .int v, _, rfl, iteT ⟨_, rfl, _, rfl, _, _, rfl, rfl, _, rfl, ?_⟩⟩
    refine ite2 (fun c => ?_) (fun c => ?_)
    · refine ⟨_, rfl, _, _, rfl, rfl, ?_⟩
      rw [c, Bool.true_and] at q
      exact q
    · rw [Bool.eq_false_iff.mpr c, Bool.false_and] at q
      exact q
theorem ok_Sizes_init (T : Txt K mg a) : FnOk P w K mg base (L2.CX P w) 4 a.f_Sizes_init a.d_Sizes_init ["self", "processors", "frames", "blocks"] (spSizesInit a.C_Sizes a.C_NotValid) := by
  refine T.F_Sizes_init.okX sc_Sizes_init (fun vs H Q E h => ?_) (fun cdv A outer s H vs Q E hr h => ?_)
  · obtain ⟨z, dx, p, f, b, rfl, _⟩ := h
    rfl
  · obtain ⟨z, dx, p, f, b, rfl, hz, yes, no⟩ := h
    refine ⟨_, (pss_cons (ps_if (PW.pt (pw_or (pt_not (pt_val (pe_call (ok_is_between T) (hr.mono (by decide)) rfl T.m_is_between T.F_is_between.kp T.B_is_between .nil pass0 (pa_cons (pv 1) (pa_cons pe_int (pa_cons pe_int pa_nil)))))) (pw_or (pt_not (pt_val (pe_call (ok_is_between T) (hr.mono (by decide)) rfl T.m_is_between T.F_is_between.kp T.B_is_between .nil pass0 (pa_cons (pv 2) (pa_cons pe_int (pa_cons pe_int pa_nil)))))) (pw_or1 (pt_not (pt_val (pe_call (ok_is_between T) (hr.mono (by decide)) rfl T.m_is_between T.F_is_between.kp T.B_is_between .nil pass0 (pa_cons (pv 3) (pa_cons pe_int (pa_cons pe_int pa_nil)))))))))) (pss_one (ps_raise rfl (takes_of rfl rfl rfl rfl) (mk_exc0 T.x_NotValid T.xi_NotValid T.xt_NotValid (ok_PageError_init T) (hr.mono (by decide)) T.B_PageError_init pass0 rfl T.m_NotValid))) pss_nil)
    (pss_cons (ps_fld (pv 0) (pv 1) rfl)
    (pss_cons (ps_fld (pv 0) (pv 2) rfl)
    (pss_cons (ps_fld (pv 0) (pv 3) rfl)
    (pss_cons (ps_fld (pv 0) pe_int rfl)
    (pss_cons (ps_fld (pv 0) (pe_op op_add (pe_fld (pv 0) rfl) (pv 1)) rfl)
    (pss_cons (ps_fld (pv 0) (pe_op op_add (pe_fld (pv 0) rfl) (pe_op op_mul (pe_con rfl T.k_SPACES) (pe_con rfl T.k_PAGES))) rfl)
    (pss_cons (ps_fld (pv 0) (pe_op op_add (pe_fld (pv 0) rfl) (pe_op op_mul (pe_con rfl T.k_CELLS) (pv 2))) rfl)
    (pss_one (ps_fld (pv 0) (pe_op op_add (pe_fld (pv 0) rfl) (pv 3)) rfl)))))))))), ?_⟩
    have bad : okSz p f b = false → ∀ x : Addr, H x = none → E (.ref a.C_NotValid) none (del (upd H x (exo x a.C_NotValid none)) x) := fun k x hx => no k _ fun b2 o h2 => by
      have ne := ne_of_none h2 hx
      rw [del_ne ne, upd_ne ne]
      exact h2
    refine ⟨_, rfl, _, _, _, rfl, ?_⟩
    cases e1 : (decide (1 ≤ p) && decide (p ≤ 3)) with
    | false => exact ⟨_, rfl, iteT (iteT fun x hx => ⟨x, a.C_NotValid, rfl, T.x_NotValid, upd_same, rfl, upd_same, bad (by unfold okSz; rw [e1]; rfl) x hx⟩)⟩
    | true =>
    refine ⟨_, rfl, iteF ⟨_, rfl, _, _, _, rfl, ?_⟩⟩
    cases e2 : (decide (2 ≤ f) && decide (f ≤ 12)) with
    | false => exact ⟨_, rfl, iteT (iteT fun x hx => ⟨x, a.C_NotValid, rfl, T.x_NotValid, upd_same, rfl, upd_same, bad (by unfold okSz; rw [e1, e2]; rfl) x hx⟩)⟩
    | true =>
    refine ⟨_, rfl, iteF ⟨_, rfl, _, _, _, rfl, ?_⟩⟩
    cases e3 : (decide (0 ≤ b) && decide (b ≤ 12)) with
    | false => exact ⟨_, rfl, iteT fun x hx => ⟨x, a.C_NotValid, rfl, T.x_NotValid, upd_same, rfl, upd_same, bad (by unfold okSz; rw [e1, e2, e3]; rfl) x hx⟩⟩
    | true =>
      have k : okSz p f b = true := by unfold okSz; rw [e1, e2, e3]; rfl
      refine ⟨_, rfl, iteF ?_⟩
      have s0 : SameBut z H H := fun _ _ _ h => h
      refine ⟨_, rfl, _, rfl, z, a.C_Sizes, dx, _, rfl, hz, T.c_Sizes, T.n_Sizes_processors, (by show 0 < 1000; decide), ?_⟩
      have s1 := s0.own (o := .ins a.C_Sizes dx [("processors", .int p)])
      refine ⟨_, rfl, _, rfl, z, a.C_Sizes, dx, _, rfl, upd_same, T.c_Sizes, T.n_Sizes_frames, (by show 1 < 1000; decide), ?_⟩
      have s2 := s1.own (o := .ins a.C_Sizes dx [("processors", .int p), ("frames", .int f)])
      refine ⟨_, rfl, _, rfl, z, a.C_Sizes, dx, _, rfl, upd_same, T.c_Sizes, T.n_Sizes_blocks, (by show 2 < 1000; decide), ?_⟩
      have s3 := s2.own (o := .ins a.C_Sizes dx [("processors", .int p), ("frames", .int f), ("blocks", .int b)])
      refine ⟨_, rfl, z, a.C_Sizes, dx, _, rfl, upd_same, T.c_Sizes, T.n_Sizes__acknowledges, (by show 3 < 1000; decide), ?_⟩
      have s4 := s3.own (o := .ins a.C_Sizes dx ((szF p f b).take 4))
      refine ⟨_, rfl, z, a.C_Sizes, dx, _, _, rfl, upd_same, T.c_Sizes, T.n_Sizes__acknowledges, rfl, _, rfl, _, _, rfl, rfl, _, rfl, z, a.C_Sizes, dx, _, rfl, upd_same, T.c_Sizes, T.n_Sizes__words, (by show 4 < 1000; decide), ?_⟩
      have s5 := s4.own (o := .ins a.C_Sizes dx ((szF p f b).take 5))
      refine ⟨_, rfl, z, a.C_Sizes, dx, _, _, rfl, upd_same, T.c_Sizes, T.n_Sizes__words, rfl, _, _, rfl, rfl, .inl ⟨by decide, by decide⟩, _, _, rfl, rfl, _, rfl, z, a.C_Sizes, dx, _, rfl, upd_same, T.c_Sizes, T.n_Sizes__frame_cells, (by show 5 < 1000; decide), ?_⟩
      have s6 := s5.own (o := .ins a.C_Sizes dx ((szF p f b).take 6))
      refine ⟨_, rfl, z, a.C_Sizes, dx, _, _, rfl, upd_same, T.c_Sizes, T.n_Sizes__frame_cells, rfl, _, rfl, _, _, rfl, rfl, .inl ⟨by decide, by decide⟩, _, _, rfl, rfl, _, rfl, z, a.C_Sizes, dx, _, rfl, upd_same, T.c_Sizes, T.n_Sizes__swap_blocks, (by show 6 < 1000; decide), ?_⟩
      have s7 := s6.own (o := .ins a.C_Sizes dx ((szF p f b).take 7))
      refine ⟨_, rfl, z, a.C_Sizes, dx, _, _, rfl, upd_same, T.c_Sizes, T.n_Sizes__swap_blocks, rfl, _, rfl, _, _, rfl, rfl, _, rfl, z, a.C_Sizes, dx, _, rfl, upd_same, T.c_Sizes, T.n_Sizes__file_blocks, (by show 7 < 1000; decide), ?_⟩
      exact yes k _ (s7.own (o := .ins a.C_Sizes dx (szF p f b))) upd_same

theorem ok_is_word (T : Txt K mg a) : FnOk P w K mg base CX0 3 a.f_is_word a.d_is_word ["value", "sizes"] (spIsWord K a.C_Sizes) := by
  refine T.F_is_word.ok sc_is_word (fun vs H Q E h => ?_) (fun cdv A outer s H vs Q E hr h => ?_)
  · obtain ⟨y, d, z, dx, p, f, b, rfl, _⟩ := h
    rfl
  · obtain ⟨y, d, z, dx, p, f, b, rfl, hy, sh, hz, q⟩ := h
    refine ⟨_, (pss_cons (ps_if (pt_cmpR (op_isN) (pv 0) pe_non (by rfl)) (pss_one (ps_ret pe_bl)) pss_nil)
    (pss_cons (ps_if (PW.pt (pw_or (pt_not (pt_val (pe_callB call_isi (by rfl) T.b_isinstance (by decide +kernel) (pa_cons (pv 0) (pa_cons (pe_bltn (v := .ty "tuple") rfl T.b_tuple (by decide +kernel) rfl) pa_nil))))) (pw_or1 (pt_cmpR (op_eq) (pe_callB call_len_seq (by rfl) T.b_len (by decide +kernel) (pa_cons (pv 0) pa_nil)) pe_int (nomark _))))) (pss_one (ps_ret pe_bl)) pss_nil)
    (pss_cons (ps_if (pt_cmpR (op_eqD hr.units) (pe_ix ix_tup (pv 0) pe_int (fun _ _ => rfl)) pe_str (nomark _)) (pss_one (ps_ret (pe_and (pe_cmpR (op_eq) (pe_callB call_len_seq (by rfl) T.b_len (by decide +kernel) (pa_cons (pv 0) pa_nil)) pe_int (nomark _)) (pe_and (pe_call (ok_is_number_below T) (hr.mono (by decide)) rfl T.m_is_number_below T.F_is_number_below.kp T.B_is_number_below .nil pass0 (pa_cons (pe_ix ix_tup (pv 0) pe_int (fun _ _ => rfl)) (pa_cons (pe_fld (pv 1) rfl) pa_nil))) (pe_one (pe_callB call_isi (by rfl) T.b_isinstance (by decide +kernel) (pa_cons (pe_ix ix_tup (pv 0) pe_int (fun _ _ => rfl)) (pa_cons (pe_bltn (v := .ty "bool") rfl T.b_bool (by decide +kernel) rfl) pa_nil)))))))) pss_nil)
    (pss_cons (ps_if (pt_cmpR (op_eqD hr.units) (pe_ix ix_tup (pv 0) pe_int (fun _ _ => rfl)) pe_str (nomark _)) (pss_one (ps_ret (pe_and (pe_cmpR (op_eq) (pe_callB call_len_seq (by rfl) T.b_len (by decide +kernel) (pa_cons (pv 0) pa_nil)) pe_int (nomark _)) (pe_one (pe_call (ok_is_number_below T) (hr.mono (by decide)) rfl T.m_is_number_below T.F_is_number_below.kp T.B_is_number_below .nil pass0 (pa_cons (pe_ix ix_tup (pv 0) pe_int (fun _ _ => rfl)) (pa_cons (pe_fld (pv 1) rfl) pa_nil))))))) pss_nil)
    (pss_cons (ps_if (pt_cmpR (op_eqD hr.units) (pe_ix ix_tup (pv 0) pe_int (fun _ _ => rfl)) pe_str (nomark _)) (pss_one (ps_ret (pe_and (pe_cmpR (op_eq) (pe_callB call_len_seq (by rfl) T.b_len (by decide +kernel) (pa_cons (pv 0) pa_nil)) pe_int (nomark _)) (pe_and (pe_call (ok_is_number_below T) (hr.mono (by decide)) rfl T.m_is_number_below T.F_is_number_below.kp T.B_is_number_below .nil pass0 (pa_cons (pe_ix ix_tup (pv 0) pe_int (fun _ _ => rfl)) (pa_cons (pe_con rfl T.k_FILES) pa_nil))) (pe_one (pe_call (ok_is_number_below T) (hr.mono (by decide)) rfl T.m_is_number_below T.F_is_number_below.kp T.B_is_number_below .nil pass0 (pa_cons (pe_ix ix_tup (pv 0) pe_int (fun _ _ => rfl)) (pa_cons (pe_con rfl T.k_FILE_PAGES) pa_nil)))))))) pss_nil)
    (pss_one (ps_ret (pe_cmpR (op_eqD hr.units) (pv 0) (pe_tup (pa_cons pe_str pa_nil)) (nomark _))))))))), ?_⟩
    refine ⟨_, rfl, rfl, _, rfl, ?_⟩
    cases hy with
    | non => exact iteT (q H (Same.refl H))
    | bl c => exact iteF ⟨_, rfl, _, _, _, _, _, rfl, .ty _, tyx (K := K) (H := H) (.bl c), kit_tup _, _, rfl, iteT (iteT (q H (Same.refl H)))⟩
    | int i => exact iteF ⟨_, rfl, _, _, _, _, _, rfl, .ty _, tyx (K := K) (H := H) (.int i), kit_tup _, _, rfl, iteT (iteT (q H (Same.refl H)))⟩
    | str x => exact iteF ⟨_, rfl, _, _, _, _, _, rfl, .ty _, tyx (K := K) (H := H) (.str x), kit_tup _, _, rfl, iteT (iteT (q H (Same.refl H)))⟩
    | @lst t xs ds sL aL => exact iteF ⟨_, rfl, _, _, _, _, _, rfl, .ty _, tyx (.lst sL aL), kit_tup _, _, rfl, iteT (iteT (q H (Same.refl H)))⟩
    | @tup t xs ds sT aT =>
      refine iteF ⟨_, rfl, _, _, _, _, _, rfl, .ty _, tyx (.tup sT aT), kit_tup _, _, rfl, iteF ⟨_, rfl, _, _, rfl, .inr sT, rfl, _, rfl, ?_⟩⟩
      cases aT with
      | nil => exact iteT (q H (Same.refl H))
      | @cons v0 xr d0 r h0 aR =>
        have el := dpAll_len aR
        refine iteF ?_
        have sh0 := Sh.elem sh (d := d0) (by simp)
        have e0 : wordM f b (.tuple (d0 :: r)) = wordB f b d0 r := rfl
        rw [e0] at q
        refine ⟨_, rfl, _, _, _, _, rfl, rfl, sT, at_of (j := 0) rfl rfl, _, _, h0, .str _, sh0.ok, (sh_str _ (by decide +kernel)).ok, _, rfl, ?_⟩
        rw [eqv_str]
        cases e1 : isS d0 "frame" with
        | true =>
          have eW : wordB f b d0 r = frB f r := by unfold wordB; rw [if_pos e1]
          rw [eW] at q
          refine iteT ⟨_, rfl, _, _, rfl, .inr sT, rfl, _, rfl, ?_⟩
          refine ite2 (fun c => ?_) (fun c => ?_)
          · have c2 : r.length = 2 := by simp at c; omega
            obtain ⟨d1, d2, rfl⟩ := len2 c2
            cases aR with
            | cons h1 aR =>
            cases aR with
            | cons h2 aR =>
            cases aR
            refine ⟨_, rfl, _, _, _, _, rfl, rfl, sT, at_of (j := 1) rfl rfl, _, rfl, z, _, _, _, _, rfl, hz, T.c_Sizes, T.n_Sizes_frames, rfl, _, d1, f, rfl, h1, _, rfl, ?_⟩
            have e3 : frB f [d1, d2] = (belowD d1 f && isBool d2) := rfl
            rw [e3] at q
            cases e4 : belowD d1 f with
            | false =>
              rw [e4, Bool.false_and] at q
              exact iteF (q H (Same.refl H))
            | true =>
              rw [e4, Bool.true_and] at q
              exact iteT ⟨_, rfl, _, _, _, _, rfl, rfl, sT, at_of (j := 2) rfl rfl, _, _, _, _, _, rfl, .ty _, tyx h2, kit_bool _, q H (Same.refl H)⟩
          · rw [frB_no (by intro k; apply c; simp; omega)] at q
            exact q H (Same.refl H)
        | false =>
        refine iteF ⟨_, rfl, _, _, _, _, rfl, rfl, sT, at_of (j := 0) rfl rfl, _, _, h0, .str _, sh0.ok, (sh_str _ (by decide +kernel)).ok, _, rfl, ?_⟩
        rw [eqv_str]
        cases e2 : isS d0 "swap" with
        | true =>
          have eW : wordB f b d0 r = swB b r := by unfold wordB; rw [if_neg (by rw [e1]; decide), if_pos e2]
          rw [eW] at q
          refine iteT ⟨_, rfl, _, _, rfl, .inr sT, rfl, _, rfl, ?_⟩
          refine ite2 (fun c => ?_) (fun c => ?_)
          · have c2 : r.length = 1 := by simp at c; omega
            obtain ⟨d1, rfl⟩ := len1 c2
            cases aR with
            | cons h1 aR =>
            cases aR
            exact ⟨_, rfl, _, _, _, _, rfl, rfl, sT, at_of (j := 1) rfl rfl, _, rfl, z, _, _, _, _, rfl, hz, T.c_Sizes, T.n_Sizes_blocks, rfl, _, d1, b, rfl, h1, q H (Same.refl H)⟩
          · rw [swB_no (by intro k; apply c; simp; omega)] at q
            exact q H (Same.refl H)
        | false =>
        refine iteF ⟨_, rfl, _, _, _, _, rfl, rfl, sT, at_of (j := 0) rfl rfl, _, _, h0, .str _, sh0.ok, (sh_str _ (by decide +kernel)).ok, _, rfl, ?_⟩
        rw [eqv_str]
        cases e3 : isS d0 "file" with
        | true =>
          have eW : wordB f b d0 r = flB r := by unfold wordB; rw [if_neg (by rw [e1]; decide), if_neg (by rw [e2]; decide), if_pos e3]
          rw [eW] at q
          refine iteT ⟨_, rfl, _, _, rfl, .inr sT, rfl, _, rfl, ?_⟩
          refine ite2 (fun c => ?_) (fun c => ?_)
          · have c2 : r.length = 2 := by simp at c; omega
            obtain ⟨d1, d2, rfl⟩ := len2 c2
            cases aR with
            | cons h1 aR =>
            cases aR with
            | cons h2 aR =>
            cases aR
            refine ⟨_, rfl, _, _, _, _, rfl, rfl, sT, at_of (j := 1) rfl rfl, _, d1, 2, rfl, h1, _, rfl, ?_⟩
            have e4 : flB [d1, d2] = (belowD d1 2 && belowD d2 4) := rfl
            rw [e4] at q
            cases e5 : belowD d1 2 with
            | false =>
              rw [e5, Bool.false_and] at q
              exact iteF (q H (Same.refl H))
            | true =>
              rw [e5, Bool.true_and] at q
              exact iteT ⟨_, rfl, _, _, _, _, rfl, rfl, sT, at_of (j := 2) rfl rfl, _, d2, 4, rfl, h2, q H (Same.refl H)⟩
          · rw [flB_no (by intro k; apply c; simp; omega)] at q
            exact q H (Same.refl H)
        | false =>
        have eW : wordB f b d0 r = (isS d0 "held" && r.isEmpty) := by unfold wordB; rw [if_neg (by rw [e1]; decide), if_neg (by rw [e2]; decide), if_neg (by rw [e3]; decide)]
        rw [eW] at q
        refine iteF ⟨_, rfl, (by show 1 ≤ sizeLine; decide), fun t2 ht2 => ?_⟩
        have e5 := Same.new (o := .tup [.str "held"]) ht2
        refine ⟨_, .tuple [.str "held"], dp_mono e5 (.tup sT (.cons h0 aR)), .tup (SqT.of upd_same) (.cons (.str _) .nil), sh.ok, (sh_w2 .held).ok, ?_⟩
        have e6 : PyData.eqv (.tuple (d0 :: r)) (.tuple [.str "held"]) = (isS d0 "held" && r.isEmpty) := by
          simp only [PyData.eqv, PyData.eqvAll, eqv_str]
          cases r <;> simp [PyData.eqvAll]
        rw [e6]
        exact q _ e5
theorem ok_frame_of (T : Txt K mg a) : FnOk P w K mg base CX0 2 a.f_frame_of a.d_frame_of ["word"] (spFrameOf K) := by
  refine T.F_frame_of.ok sc_frame_of (fun vs H Q E h => ?_) (fun cdv A outer s H vs Q E hr h => ?_)
  · obtain ⟨y, x, rfl, _⟩ := h
    rfl
  · obtain ⟨y, x, rfl, hy, q⟩ := h
    refine ⟨_, (pss_cons (ps_if (pt_val (pe_call (ok_leads_to_frame T) (hr.mono (by decide)) rfl T.m_leads_to_frame T.F_leads_to_frame.kp T.B_leads_to_frame .nil pass0 (pa_cons (pv 0) pa_nil))) (pss_one (ps_ret (pe_ix ix_tup (pv 0) pe_int (fun _ _ => rfl)))) pss_nil)
    (pss_one (ps_ret pe_non))), ?_⟩
    refine ⟨_, rfl, _, _, rfl, hy, (sh_w2 x).up (by decide), _, rfl, ?_⟩
    rw [leads_w2]
    cases x with
    | frame f w =>
      cases hy with
      | @tup t xs _ sT aT =>
      cases aT with
      | cons d0 aT =>
      cases aT with
      | cons d1 aT =>
      cases d1
      exact iteT ⟨_, rfl, _, _, _, _, rfl, rfl, sT, at_of (j := 1) rfl rfl, q⟩
    | non => exact iteF q
    | swap n => exact iteF q
    | file f p => exact iteF q
    | held => exact iteF q
theorem ok_block_of (T : Txt K mg a) : FnOk P w K mg base CX0 2 a.f_block_of a.d_block_of ["word"] (spBlockOf K) := by
  refine T.F_block_of.ok sc_block_of (fun vs H Q E h => ?_) (fun cdv A outer s H vs Q E hr h => ?_)
  · obtain ⟨y, x, rfl, _⟩ := h
    rfl
  · obtain ⟨y, x, rfl, hy, q⟩ := h
    refine ⟨_, (pss_cons (ps_if (PW.pt (pw_and (pt_val (pe_call (ok_is_tuple_of T) (hr.mono (by decide)) rfl T.m_is_tuple_of T.F_is_tuple_of.kp T.B_is_tuple_of .nil pass0 (pa_cons (pv 0) (pa_cons pe_int pa_nil)))) (pw_and1 (pt_cmpR (op_eqD hr.units) (pe_ix ix_tup (pv 0) pe_int (fun _ _ => rfl)) pe_str (nomark _))))) (pss_one (ps_ret (pe_ix ix_tup (pv 0) pe_int (fun _ _ => rfl)))) pss_nil)
    (pss_one (ps_ret pe_non))), ?_⟩
    refine ⟨_, rfl, _, _, _, rfl, hy, _, rfl, ?_⟩
    cases x with
    | frame f w => exact iteF (iteF q)
    | non => exact iteF (iteF q)
    | file f p => exact iteF (iteF q)
    | held => exact iteF (iteF q)
    | swap n =>
      cases hy with
      | @tup t xs _ sT aT =>
      cases aT with
      | cons d0 aT =>
      cases aT with
      | cons d1 aT =>
      cases d1
      refine iteT ⟨_, rfl, _, _, _, _, rfl, rfl, sT, at_of (j := 0) rfl rfl, _, _, d0, .str _, (sh_str _ (by decide +kernel)).ok, (sh_str _ (by decide +kernel)).ok, _, rfl, ?_⟩
      rw [eqv_str]
      exact iteT ⟨_, rfl, _, _, _, _, rfl, rfl, sT, at_of (j := 1) rfl rfl, q⟩
theorem ok_is_writable (T : Txt K mg a) : FnOk P w K mg base CX0 2 a.f_is_writable a.d_is_writable ["word"] (spIsWr K) := by
  refine T.F_is_writable.ok sc_is_writable (fun vs H Q E h => ?_) (fun cdv A outer s H vs Q E hr h => ?_)
  · obtain ⟨y, x, rfl, _⟩ := h
    rfl
  · obtain ⟨y, x, rfl, hy, q⟩ := h
    refine ⟨_, (pss_one (ps_ret (pe_and (pe_call (ok_leads_to_frame T) (hr.mono (by decide)) rfl T.m_leads_to_frame T.F_leads_to_frame.kp T.B_leads_to_frame .nil pass0 (pa_cons (pv 0) pa_nil)) (pe_one (pe_cmpR (op_is_bl) (pe_ix ix_tup (pv 0) pe_int (fun _ _ => rfl)) pe_bl (by rfl)))))), ?_⟩
    refine ⟨_, rfl, _, _, rfl, hy, (sh_w2 x).up (by decide), _, rfl, ?_⟩
    rw [leads_w2]
    cases x with
    | frame f w =>
      cases hy with
      | @tup t xs _ sT aT =>
      cases aT with
      | cons d0 aT =>
      cases aT with
      | cons d1 aT =>
      cases aT with
      | cons d2 aT =>
      cases d2
      refine iteT ⟨_, rfl, _, _, _, _, rfl, rfl, sT, at_of (j := 2) rfl rfl, _, _, rfl, rfl, ?_⟩
      have e : decide (w = true) = w := by cases w <;> rfl
      rw [e]
      exact q
    | non => exact iteF q
    | swap n => exact iteF q
    | file f p => exact iteF q
    | held => exact iteF q
theorem ok_read_only (T : Txt K mg a) : FnOk P w K mg base CX0 2 a.f_read_only a.d_read_only ["word"] (spReadOnly K) := by
  refine T.F_read_only.ok sc_read_only (fun vs H Q E h => ?_) (fun cdv A outer s H vs Q E hr h => ?_)
  · obtain ⟨y, x, rfl, _⟩ := h
    rfl
  · obtain ⟨y, x, rfl, hy, q⟩ := h
    refine ⟨_, (pss_cons (ps_if (pt_val (pe_call (ok_leads_to_frame T) (hr.mono (by decide)) rfl T.m_leads_to_frame T.F_leads_to_frame.kp T.B_leads_to_frame .nil pass0 (pa_cons (pv 0) pa_nil))) (pss_one (ps_ret (pe_tup (pa_cons pe_str (pa_cons (pe_ix ix_tup (pv 0) pe_int (fun _ _ => rfl)) (pa_cons pe_bl pa_nil)))))) pss_nil)
    (pss_one (ps_ret (pv 0)))), ?_⟩
    refine ⟨_, rfl, _, _, rfl, hy, (sh_w2 x).up (by decide), _, rfl, ?_⟩
    rw [leads_w2]
    cases x with
    | frame f w =>
      cases hy with
      | @tup t xs _ sT aT =>
      cases aT with
      | cons d0 aT =>
      cases aT with
      | cons d1 aT =>
      cases d1
      exact iteT ⟨_, rfl, _, _, _, _, rfl, rfl, sT, at_of (j := 1) rfl rfl, (by show 3 ≤ sizeLine; decide), fun t2 ht2 => q _ _ (Same.new ht2) (.tup (SqT.of upd_same) (.cons (.str _) (.cons (.int _) (.cons (.bl _) .nil))))⟩
    | non => exact iteF ⟨_, rfl, q _ _ (Same.refl H) hy⟩
    | swap n => exact iteF ⟨_, rfl, q _ _ (Same.refl H) hy⟩
    | file f p => exact iteF ⟨_, rfl, q _ _ (Same.refl H) hy⟩
    | held => exact iteF ⟨_, rfl, q _ _ (Same.refl H) hy⟩

end
def spLNum (K : PySem.W.Frag) : Sp := spBelow K
def spLIs (K : PySem.W.Frag) : Sp := fun vs H Q _ => ∃ (y : V) (d : PyData) (f b : Int), vs = [y, .int f, .int b] ∧ Dp K H y d ∧ Sh 60 d ∧ Q (.bl (wordM f b d)) H
def spLNone : Sp := fun vs H Q _ => ∃ (o u : Option Int), vs = [optV o, optV u] ∧ Q (.bl (decide (o = u))) H
def spLValue (K : PySem.W.Frag) : Sp := fun vs H Q _ => ∃ (n p : Int), vs = [.int n, .int p] ∧ 0 ≤ n ∧ ∀ (y : V) (d : PyData) (H' : Hp), Same H H' → Dp K H' y d → Sh 2 d → Q y H'
section
variable {P : Program} {w : World} {K : PySem.W.Frag} {mg : Str → Option Value} {base : Heap} {a : Ad}
theorem ok__law_number (T : Txt K mg a) : FnOk P w K mg base CX0 1 a.f__law_number a.d__law_number ["value", "many"] (spBelow K) := by
  refine T.F__law_number.ok sc__law_number (fun vs H Q E h => ?_) (fun cdv A outer s H vs Q E hr h => ?_)
  · obtain ⟨v, d, n, rfl, _⟩ := h
    rfl
  · obtain ⟨v, d, n, rfl, hd, q⟩ := h
    refine ⟨_, (pss_one (ps_ret (pe_and (pe_callB call_isi (by rfl) T.b_isinstance (by decide +kernel) (pa_cons (pv 0) (pa_cons (pe_bltn (v := .ty "int") rfl T.b_int (by decide +kernel) rfl) pa_nil))) (pe_and (pe_not (pe_callB call_isi (by rfl) T.b_isinstance (by decide +kernel) (pa_cons (pv 0) (pa_cons (pe_bltn (v := .ty "bool") rfl T.b_bool (by decide +kernel) rfl) pa_nil)))) (pe_one (pe_chain (op_le) (op_lt) pe_int (pv 0) (pv 1))))))), ?_⟩
    have ty := tyx hd
    refine ⟨_, rfl, _, _, _, _, _, rfl, .ty _, ty, kit_int d, _, rfl, ?_⟩
    cases d with
    | int i =>
      cases hd
      refine iteT ⟨_, rfl, _, _, _, _, _, rfl, .ty _, ty, kit_bool _, _, rfl, _, rfl, iteT ⟨_, rfl, _, _, rfl, rfl, _, rfl, ?_⟩⟩
      refine ite2 (fun c => ?_) (fun c => ?_)
      · refine ⟨_, rfl, _, _, rfl, rfl, ?_⟩
        have e : belowD (.int i) n = decide (i < n) := by simp only [belowD, c, Bool.true_and]
        rw [e] at q
        exact q
      · have e : belowD (.int i) n = false := by simp only [belowD, Bool.eq_false_iff.mpr c, Bool.false_and]
        rw [e] at q
        exact q
    | bool b => exact iteT ⟨_, rfl, _, _, _, _, _, rfl, .ty _, ty, kit_bool _, _, rfl, _, rfl, iteF q⟩
    | none => exact iteF q
    | str x => exact iteF q
    | list xs => exact iteF q
    | tuple xs => exact iteF q
    | dict xs => exact iteF q
theorem ok__law_is (T : Txt K mg a) : FnOk P w K mg base CX0 2 a.f__law_is a.d__law_is ["value", "frames", "blocks"] (spLIs K) := by
  refine T.F__law_is.ok sc__law_is (fun vs H Q E h => ?_) (fun cdv A outer s H vs Q E hr h => ?_)
  · obtain ⟨y, d, f, b, rfl, _⟩ := h
    rfl
  · obtain ⟨y, d, f, b, rfl, hy, sh, q⟩ := h
    refine ⟨_, (pss_cons (ps_if (pt_cmpR (op_isN) (pv 0) pe_non (by rfl)) (pss_one (ps_ret pe_bl)) pss_nil)
    (pss_cons (ps_if (PW.pt (pw_or (pt_not (pt_val (pe_callB call_isi (by rfl) T.b_isinstance (by decide +kernel) (pa_cons (pv 0) (pa_cons (pe_bltn (v := .ty "tuple") rfl T.b_tuple (by decide +kernel) rfl) pa_nil))))) (pw_or (pt_cmpR (op_eq) (pe_callB call_len_seq (by rfl) T.b_len (by decide +kernel) (pa_cons (pv 0) pa_nil)) pe_int (nomark _)) (pw_or1 (pt_not (pt_val (pe_callB call_isi (by rfl) T.b_isinstance (by decide +kernel) (pa_cons (pe_ix ix_tup (pv 0) pe_int (fun _ _ => rfl)) (pa_cons (pe_bltn (v := .ty "str") rfl T.b_str (by decide +kernel) rfl) pa_nil))))))))) (pss_one (ps_ret pe_bl)) pss_nil)
    (pss_cons (ps_if (pt_cmpR (op_eqD hr.units) (pe_ix ix_tup (pv 0) pe_int (fun _ _ => rfl)) pe_str (nomark _)) (pss_one (ps_ret (pe_cmpR (op_eq) (pe_callB call_len_seq (by rfl) T.b_len (by decide +kernel) (pa_cons (pv 0) pa_nil)) pe_int (nomark _)))) pss_nil)
    (pss_cons (ps_if (pt_cmpR (op_eqD hr.units) (pe_ix ix_tup (pv 0) pe_int (fun _ _ => rfl)) pe_str (nomark _)) (pss_one (ps_ret (pe_and (pe_cmpR (op_eq) (pe_callB call_len_seq (by rfl) T.b_len (by decide +kernel) (pa_cons (pv 0) pa_nil)) pe_int (nomark _)) (pe_and (pe_call (ok__law_number T) (hr.mono (by decide)) rfl T.m__law_number T.F__law_number.kp T.B__law_number .nil pass0 (pa_cons (pe_ix ix_tup (pv 0) pe_int (fun _ _ => rfl)) (pa_cons (pv 1) pa_nil))) (pe_one (pe_callB call_isi (by rfl) T.b_isinstance (by decide +kernel) (pa_cons (pe_ix ix_tup (pv 0) pe_int (fun _ _ => rfl)) (pa_cons (pe_bltn (v := .ty "bool") rfl T.b_bool (by decide +kernel) rfl) pa_nil)))))))) pss_nil)
    (pss_cons (ps_if (pt_cmpR (op_eqD hr.units) (pe_ix ix_tup (pv 0) pe_int (fun _ _ => rfl)) pe_str (nomark _)) (pss_one (ps_ret (pe_and (pe_cmpR (op_eq) (pe_callB call_len_seq (by rfl) T.b_len (by decide +kernel) (pa_cons (pv 0) pa_nil)) pe_int (nomark _)) (pe_one (pe_call (ok__law_number T) (hr.mono (by decide)) rfl T.m__law_number T.F__law_number.kp T.B__law_number .nil pass0 (pa_cons (pe_ix ix_tup (pv 0) pe_int (fun _ _ => rfl)) (pa_cons (pv 2) pa_nil))))))) pss_nil)
    (pss_one (ps_ret (pe_and (pe_cmpR (op_eqD hr.units) (pe_ix ix_tup (pv 0) pe_int (fun _ _ => rfl)) pe_str (nomark _)) (pe_and (pe_cmpR (op_eq) (pe_callB call_len_seq (by rfl) T.b_len (by decide +kernel) (pa_cons (pv 0) pa_nil)) pe_int (nomark _)) (pe_and (pe_call (ok__law_number T) (hr.mono (by decide)) rfl T.m__law_number T.F__law_number.kp T.B__law_number .nil pass0 (pa_cons (pe_ix ix_tup (pv 0) pe_int (fun _ _ => rfl)) (pa_cons pe_int pa_nil))) (pe_one (pe_call (ok__law_number T) (hr.mono (by decide)) rfl T.m__law_number T.F__law_number.kp T.B__law_number .nil pass0 (pa_cons (pe_ix ix_tup (pv 0) pe_int (fun _ _ => rfl)) (pa_cons pe_int pa_nil)))))))))))))), ?_⟩
    refine ⟨_, rfl, rfl, _, rfl, ?_⟩
    cases hy with
    | non => exact iteT q
    | bl c => exact iteF ⟨_, rfl, _, _, _, _, _, rfl, .ty _, tyx (K := K) (H := H) (.bl c), kit_tup _, _, rfl, iteT (iteT q)⟩
    | int i => exact iteF ⟨_, rfl, _, _, _, _, _, rfl, .ty _, tyx (K := K) (H := H) (.int i), kit_tup _, _, rfl, iteT (iteT q)⟩
    | str x => exact iteF ⟨_, rfl, _, _, _, _, _, rfl, .ty _, tyx (K := K) (H := H) (.str x), kit_tup _, _, rfl, iteT (iteT q)⟩
    | @lst t xs ds sL aL => exact iteF ⟨_, rfl, _, _, _, _, _, rfl, .ty _, tyx (.lst sL aL), kit_tup _, _, rfl, iteT (iteT q)⟩
    | @tup t xs ds sT aT =>
      refine iteF ⟨_, rfl, _, _, _, _, _, rfl, .ty _, tyx (.tup sT aT), kit_tup _, _, rfl, iteF ⟨_, rfl, _, _, rfl, .inr sT, rfl, _, rfl, ?_⟩⟩
      cases aT with
      | nil => exact iteT (iteT q)
      | @cons v0 xr d0 r h0 aR =>
        have el := dpAll_len aR
        refine iteF ?_
        have sh0 := Sh.elem sh (d := d0) (by simp)
        have e0 : wordM f b (.tuple (d0 :: r)) = wordB f b d0 r := rfl
        rw [e0] at q
        refine ⟨_, rfl, _, _, _, _, rfl, rfl, sT, at_of (j := 0) rfl rfl, _, _, _, _, _, rfl, .ty _, tyx h0, kit_str _, _, rfl, ?_⟩
        cases es : isStr d0 with
        | false =>
          have n : ∀ z, isS d0 z = false := by
            intro z
            cases d0 <;> first | rfl | simp [isStr] at es
          have eW : wordB f b d0 r = false := by unfold wordB; rw [if_neg (by rw [n]; decide), if_neg (by rw [n]; decide), if_neg (by rw [n]; decide), n]; rfl
          rw [eW] at q
          exact iteT q
        | true =>
        refine iteF ⟨_, rfl, _, _, _, _, rfl, rfl, sT, at_of (j := 0) rfl rfl, _, _, h0, .str _, sh0.ok, (sh_str _ (by decide +kernel)).ok, _, rfl, ?_⟩
        rw [eqv_str]
        cases e1 : isS d0 "held" with
        | true =>
          have eW : wordB f b d0 r = r.isEmpty := by unfold wordB; rw [if_neg (by rw [isS_ne e1 (by decide +kernel)]; decide), if_neg (by rw [isS_ne e1 (by decide +kernel)]; decide), if_neg (by rw [isS_ne e1 (by decide +kernel)]; decide), e1]; rfl
          rw [eW] at q
          refine iteT ⟨_, rfl, _, _, rfl, .inr sT, rfl, ?_⟩
          have e2 : decide (V.int ((v0 :: xr).length : Int) = V.int 1) = r.isEmpty := by
            cases r with
            | nil => simp at el; simp [el]
            | cons x r => simp at el; simp [el]; omega
          rw [e2]
          exact q
        | false =>
        refine iteF ⟨_, rfl, _, _, _, _, rfl, rfl, sT, at_of (j := 0) rfl rfl, _, _, h0, .str _, sh0.ok, (sh_str _ (by decide +kernel)).ok, _, rfl, ?_⟩
        rw [eqv_str]
        cases e2 : isS d0 "frame" with
        | true =>
          have eW : wordB f b d0 r = frB f r := by unfold wordB; rw [if_pos e2]
          rw [eW] at q
          refine iteT ⟨_, rfl, _, _, rfl, .inr sT, rfl, _, rfl, ?_⟩
          refine ite2 (fun c => ?_) (fun c => ?_)
          · have c2 : r.length = 2 := by simp at c; omega
            obtain ⟨d1, d2, rfl⟩ := len2 c2
            cases aR with
            | cons h1 aR =>
            cases aR with
            | cons h2 aR =>
            cases aR
            refine ⟨_, rfl, _, _, _, _, rfl, rfl, sT, at_of (j := 1) rfl rfl, _, rfl, _, d1, f, rfl, h1, _, rfl, ?_⟩
            have e3 : frB f [d1, d2] = (belowD d1 f && isBool d2) := rfl
            rw [e3] at q
            cases e4 : belowD d1 f with
            | false =>
              rw [e4, Bool.false_and] at q
              exact iteF q
            | true =>
              rw [e4, Bool.true_and] at q
              exact iteT ⟨_, rfl, _, _, _, _, rfl, rfl, sT, at_of (j := 2) rfl rfl, _, _, _, _, _, rfl, .ty _, tyx h2, kit_bool _, q⟩
          · rw [frB_no (by intro k; apply c; simp; omega)] at q
            exact q
        | false =>
        refine iteF ⟨_, rfl, _, _, _, _, rfl, rfl, sT, at_of (j := 0) rfl rfl, _, _, h0, .str _, sh0.ok, (sh_str _ (by decide +kernel)).ok, _, rfl, ?_⟩
        rw [eqv_str]
        cases e3 : isS d0 "swap" with
        | true =>
          have eW : wordB f b d0 r = swB b r := by unfold wordB; rw [if_neg (by rw [e2]; decide), if_pos e3]
          rw [eW] at q
          refine iteT ⟨_, rfl, _, _, rfl, .inr sT, rfl, _, rfl, ?_⟩
          refine ite2 (fun c => ?_) (fun c => ?_)
          · have c2 : r.length = 1 := by simp at c; omega
            obtain ⟨d1, rfl⟩ := len1 c2
            cases aR with
            | cons h1 aR =>
            cases aR
            exact ⟨_, rfl, _, _, _, _, rfl, rfl, sT, at_of (j := 1) rfl rfl, _, rfl, _, d1, b, rfl, h1, q⟩
          · rw [swB_no (by intro k; apply c; simp; omega)] at q
            exact q
        | false =>
        refine iteF ⟨_, rfl, _, _, _, _, rfl, rfl, sT, at_of (j := 0) rfl rfl, _, _, h0, .str _, sh0.ok, (sh_str _ (by decide +kernel)).ok, _, rfl, ?_⟩
        rw [eqv_str]
        have eW0 : wordB f b d0 r = (if isS d0 "file" = true then flB r else isS d0 "held" && r.isEmpty) := by unfold wordB; rw [if_neg (by rw [e2]; decide), if_neg (by rw [e3]; decide)]
        rw [eW0] at q
        cases e4 : isS d0 "file" with
        | false =>
          rw [if_neg (by rw [e4]; decide), e1] at q
          exact iteF q
        | true =>
          rw [if_pos e4] at q
          refine iteT ⟨_, rfl, _, _, rfl, .inr sT, rfl, _, rfl, ?_⟩
          refine ite2 (fun c => ?_) (fun c => ?_)
          · have c2 : r.length = 2 := by simp at c; omega
            obtain ⟨d1, d2, rfl⟩ := len2 c2
            cases aR with
            | cons h1 aR =>
            cases aR with
            | cons h2 aR =>
            cases aR
            refine ⟨_, rfl, _, _, _, _, rfl, rfl, sT, at_of (j := 1) rfl rfl, _, d1, 2, rfl, h1, _, rfl, ?_⟩
            have e5 : flB [d1, d2] = (belowD d1 2 && belowD d2 4) := rfl
            rw [e5] at q
            cases e6 : belowD d1 2 with
            | false =>
              rw [e6, Bool.false_and] at q
              exact iteF q
            | true =>
              rw [e6, Bool.true_and] at q
              exact iteT ⟨_, rfl, _, _, _, _, rfl, rfl, sT, at_of (j := 2) rfl rfl, _, d2, 4, rfl, h2, q⟩
          · rw [flB_no (by intro k; apply c; simp; omega)] at q
            exact q
theorem ok__law_none (T : Txt K mg a) : FnOk P w K mg base CX0 1 a.f__law_none a.d__law_none ["told", "due"] (spLNone) := by
  refine T.F__law_none.ok sc__law_none (fun vs H Q E h => ?_) (fun cdv A outer s H vs Q E hr h => ?_)
  · obtain ⟨o, u, rfl, _⟩ := h
    rfl
  · obtain ⟨o, u, rfl, q⟩ := h
    refine ⟨_, (pss_cons (ps_if (pt_cmpR (op_isN) (pv 1) pe_non (by rfl)) (pss_one (ps_ret (pe_cmpR (op_isN) (pv 0) pe_non (by rfl)))) pss_nil)
    (pss_one (ps_ret (pe_and (pe_callB call_isi (by rfl) T.b_isinstance (by decide +kernel) (pa_cons (pv 0) (pa_cons (pe_bltn (v := .ty "int") rfl T.b_int (by decide +kernel) rfl) pa_nil))) (pe_and (pe_not (pe_callB call_isi (by rfl) T.b_isinstance (by decide +kernel) (pa_cons (pv 0) (pa_cons (pe_bltn (v := .ty "bool") rfl T.b_bool (by decide +kernel) rfl) pa_nil)))) (pe_one (pe_cmpR (op_eq) (pv 0) (pv 1) (nomark _)))))))), ?_⟩
    refine ⟨_, rfl, rfl, _, rfl, ?_⟩
    cases u with
    | none =>
      refine iteT ⟨_, rfl, rfl, ?_⟩
      cases o <;> exact q
    | some u =>
      refine iteF ?_
      cases o with
      | none => exact ⟨_, rfl, _, _, _, _, _, rfl, .ty _, tyx (K := K) (H := H) .non, kit_int _, _, rfl, iteF q⟩
      | some o =>
        refine ⟨_, rfl, _, _, _, _, _, rfl, .ty _, tyx (K := K) (H := H) (.int o), kit_int _, _, rfl, iteT ⟨_, rfl, _, _, _, _, _, rfl, .ty _, tyx (K := K) (H := H) (.int o), kit_bool _, _, rfl, _, rfl, iteT ⟨_, rfl, _, rfl, rfl, ?_⟩⟩⟩
        have e : decide (optV (some o) = optV (some u)) = decide (some o = some u) := by simp [optV]
        rw [e]
        exact q
def Good (K : PySem.W.Frag) (H : Hp) (xs : List V) : Prop := ∀ x ∈ xs, ∃ d, Dp K H x d ∧ Sh 2 d
theorem Good.mono {H H' : Hp} {xs : List V} (h : Good K H xs) (e : Same H H') : Good K H' xs := fun x hx => by
  obtain ⟨d, h1, h2⟩ := h x hx
  exact ⟨d, dp_mono e h1, h2⟩
theorem Good.nil {H : Hp} : Good K H [] := fun _ h => absurd h List.not_mem_nil
theorem Good.cons {H : Hp} {x : V} {xs : List V} {d : PyData} (h : Dp K H x d) (s : Sh 2 d) (k : Good K H xs) : Good K H (x :: xs) := fun y hy => by
  rcases List.mem_cons.mp hy with rfl | hy
  · exact ⟨d, h, s⟩
  · exact k y hy
theorem Good.app {H : Hp} {xs ys : List V} (h : Good K H xs) (k : Good K H ys) : Good K H (xs ++ ys) := fun y hy => (List.mem_append.mp hy).elim (h y) (k y)
theorem g1 {H : Hp} {t : Addr} {x : V} {d : PyData} (h : H t = some (.tup [x])) (k : Dp K H x d) (s : Sh 0 d) : ∃ d, Dp K H (.ref t) d ∧ Sh 2 d := ⟨.tuple [d], .tup (SqT.of h) (.cons k .nil), (sh_tup (sh_c s sh_n)).up (by decide)⟩
theorem g2 {H : Hp} {t : Addr} {x y : V} {d e : PyData} (h : H t = some (.tup [x, y])) (k : Dp K H x d) (s : Sh 0 d) (k2 : Dp K H y e) (s2 : Sh 0 e) : ∃ d, Dp K H (.ref t) d ∧ Sh 2 d :=
  ⟨.tuple [d, e], .tup (SqT.of h) (.cons k (.cons k2 .nil)), (sh_tup (sh_c s (sh_c s2 sh_n))).up (by decide)⟩
theorem g3 {H : Hp} {t : Addr} {x y z : V} {d e f : PyData} (h : H t = some (.tup [x, y, z])) (k : Dp K H x d) (s : Sh 0 d) (k2 : Dp K H y e) (s2 : Sh 0 e) (k3 : Dp K H z f) (s3 : Sh 0 f) : ∃ d, Dp K H (.ref t) d ∧ Sh 2 d :=
  ⟨.tuple [d, e, f], .tup (SqT.of h) (.cons k (.cons k2 (.cons k3 .nil))), (sh_tup (sh_c s (sh_c s2 (sh_c s3 sh_n)))).up (by decide)⟩
theorem good_of {H : Hp} {xs : List V} (h : ∀ x ∈ xs, ∃ d, Dp K H x d ∧ Sh 2 d) : Good K H xs := h
theorem gc {H : Hp} {x : V} {xs : List V} (h : ∃ d, Dp K H x d ∧ Sh 2 d) (k : Good K H xs) : Good K H (x :: xs) := fun y hy => by
  rcases List.mem_cons.mp hy with rfl | hy
  · exact h
  · exact k y hy
theorem ok__law_value (T : Txt K mg a) : FnOk P w K mg base CX0 1 a.f__law_value a.d__law_value ["number", "pick"] (spLValue K) := by
  refine T.F__law_value.ok sc__law_value (fun vs H Q E h => ?_) (fun cdv A outer s H vs Q E hr h => ?_)
  · obtain ⟨n, p, rfl, _⟩ := h
    rfl
  · obtain ⟨n, p, rfl, hn, q⟩ := h
    refine ⟨_, (pss_cons (ps_set (i := 2) sc__law_value.nd rfl (Or.inl rfl) (pe_op op_sub (pe_op op_mod (pv 1) pe_int) pe_int))
    (pss_cons (ps_set (i := 3) sc__law_value.nd rfl (Or.inl rfl) (pe_lst (pa_cons pe_non (pa_cons (pe_tup (pa_cons pe_str pa_nil)) (pa_cons (pe_tup (pa_cons pe_str (pa_cons (pv 2) (pa_cons pe_bl pa_nil)))) (pa_cons (pe_tup (pa_cons pe_str (pa_cons (pv 2) (pa_cons pe_bl pa_nil)))) (pa_cons (pe_tup (pa_cons pe_str (pa_cons (pv 2) pa_nil))) (pa_cons (pe_tup (pa_cons pe_str (pa_cons (pe_op op_sub (pe_op op_mod (pv 2) pe_int) pe_int) (pa_cons (pe_op op_fdiv (pv 2) pe_int) pa_nil)))) pa_nil))))))))
    (pss_cons (ps_set (i := 3) sc__law_value.nd rfl (Or.inl rfl) (pe_op op_cat (pv 3) (pe_lst (pa_cons (pe_tup (pa_cons pe_str (pa_cons (pv 2) pa_nil))) (pa_cons (pe_tup (pa_cons pe_str (pa_cons (pv 2) (pa_cons pe_int pa_nil)))) (pa_cons (pe_tup (pa_cons pe_str (pa_cons pe_bl pa_nil))) (pa_cons (pe_tup (pa_cons pe_str (pa_cons (pv 2) (pa_cons pe_int pa_nil)))) (pa_cons (pe_tup (pa_cons pe_str (pa_cons pe_int pa_nil))) (pa_cons (pe_tup (pa_cons pe_str (pa_cons pe_int pa_nil))) (pa_cons (pe_tup pa_nil) (pa_cons pe_str pa_nil)))))))))))
    (pss_cons (ps_set (i := 3) sc__law_value.nd rfl (Or.inl rfl) (pe_op op_cat (pv 3) (pe_lst (pa_cons (pv 2) (pa_cons (pe_lst (pa_cons pe_str (pa_cons pe_int pa_nil))) (pa_cons (pe_tup (pa_cons pe_str (pa_cons pe_int pa_nil))) (pa_cons (pe_tup (pa_cons pe_int (pa_cons pe_int pa_nil))) (pa_cons (pe_tup (pa_cons pe_str (pa_cons pe_int (pa_cons pe_int pa_nil)))) (pa_cons (pe_tup (pa_cons pe_str (pa_cons pe_int (pa_cons pe_int pa_nil)))) (pa_cons (pe_tup (pa_cons pe_str (pa_cons pe_non (pa_cons pe_bl pa_nil)))) pa_nil))))))))))
    (pss_one (ps_ret (pe_ix ix_list (pv 3) (pe_op op_mod (pv 0) pe_int) (fun _ _ => rfl)))))))), ?_⟩
    have tS : ∀ {s : Str}, PyData.canLay0 (.str s) = true → Sh 0 (.str s) := fun h => sh_str _ h
    have sF : Sh 0 (.str "frame") := sh_str _ (by decide +kernel)
    have sS : Sh 0 (.str "swap") := sh_str _ (by decide +kernel)
    have sL : Sh 0 (.str "file") := sh_str _ (by decide +kernel)
    have sH : Sh 0 (.str "held") := sh_str _ (by decide +kernel)
    have sO : Sh 0 (.str "other") := sh_str _ (by decide +kernel)
    refine ⟨_, rfl, _, _, rfl, rfl, (by show (0 : Int) < 15; decide), _, _, rfl, rfl, ?_⟩
    refine ⟨(by show 1 ≤ sizeLine; decide), fun t1 h1 => ⟨_, rfl, (by show 3 ≤ sizeLine; decide), fun t2 h2 => ⟨_, rfl, (by show 3 ≤ sizeLine; decide), fun t3 h3 => ⟨_, rfl, (by show 2 ≤ sizeLine; decide), fun t4 h4 =>
      ⟨_, rfl, _, _, rfl, rfl, (by show (0 : Int) < 4; decide), _, _, rfl, rfl, _, rfl, _, _, rfl, rfl, ⟨by decide, by decide⟩, (by show 3 ≤ sizeLine; decide), fun t5 h5 => ⟨(by show 6 ≤ sizeLine; decide), fun L1 hL1 => ?_⟩⟩⟩⟩⟩⟩
    have e1 : ∃ H1, H1 = upd (upd (upd (upd (upd (upd H t1 (.tup [.str "held"])) t2 (.tup [.str "frame", .int (p % 15 - 1), .bl true])) t3 (.tup [.str "frame", .int (p % 15 - 1), .bl false])) t4 (.tup [.str "swap", .int (p % 15 - 1)])) t5
      (.tup [.str "file", .int ((p % 15 - 1) % 4 - 1), .int ((p % 15 - 1) / 3)])) L1 (.lst [.non, .ref t1, .ref t2, .ref t3, .ref t4, .ref t5]) := ⟨_, rfl⟩
    obtain ⟨H1, e1⟩ := e1
    rw [← e1]
    have s5 := Same.new (o := .lst [.non, .ref t1, .ref t2, .ref t3, .ref t4, .ref t5]) hL1
    have s4 := (Same.new (o := .tup [.str "file", .int ((p % 15 - 1) % 4 - 1), .int ((p % 15 - 1) / 3)]) h5).trans s5
    have s3 := (Same.new (o := .tup [.str "swap", .int (p % 15 - 1)]) h4).trans s4
    have s2 := (Same.new (o := .tup [.str "frame", .int (p % 15 - 1), .bl false]) h3).trans s3
    have s1 := (Same.new (o := .tup [.str "frame", .int (p % 15 - 1), .bl true]) h2).trans s2
    have s0 := (Same.new (o := .tup [.str "held"]) h1).trans s1
    have hl1 : H1 L1 = some (.lst [.non, .ref t1, .ref t2, .ref t3, .ref t4, .ref t5]) := by rw [e1]; exact upd_same
    have G1 : Good K H1 [.non, .ref t1, .ref t2, .ref t3, .ref t4, .ref t5] := by
      rw [e1]
      exact gc ⟨.none, .non, sh_none.up (by decide)⟩ (gc (g1 (s1 _ _ upd_same) (.str _) sH) (gc (g3 (s2 _ _ upd_same) (.str _) sF (.int _) (sh_int _) (.bl _) (sh_bool _)) (gc (g3 (s3 _ _ upd_same) (.str _) sF (.int _) (sh_int _) (.bl _) (sh_bool _))
        (gc (g2 (s4 _ _ upd_same) (.str _) sS (.int _) (sh_int _)) (gc (g3 (s5 _ _ upd_same) (.str _) sL (.int _) (sh_int _) (.int _) (sh_int _)) Good.nil)))))
    have S1 : Same H H1 := by rw [e1]; exact s0
    obtain ⟨M1, eM1⟩ : ∃ M, M = [V.non, .ref t1, .ref t2, .ref t3, .ref t4, .ref t5] := ⟨_, rfl⟩
    rw [← eM1] at hl1 G1
    have len1 : M1.length = 6 := by rw [eM1]; rfl
    clear e1 s0 s1 s2 s3 s4 s5
    refine ⟨_, rfl, _, rfl, (by show 2 ≤ sizeLine; decide), fun t1 h1 => ⟨_, rfl, (by show 3 ≤ sizeLine; decide), fun t2 h2 => ⟨(by show 2 ≤ sizeLine; decide), fun t3 h3 => ⟨_, rfl, (by show 3 ≤ sizeLine; decide), fun t4 h4 =>
      ⟨(by show 2 ≤ sizeLine; decide), fun t5 h5 => ⟨(by show 2 ≤ sizeLine; decide), fun t6 h6 => ⟨Nat.zero_le _, fun t7 h7 => ⟨(by show 8 ≤ sizeLine; decide), fun L2 hL2 => ?_⟩⟩⟩⟩⟩⟩⟩⟩
    have e2 : ∃ H2, H2 = upd (upd (upd (upd (upd (upd (upd (upd H1 t1 (.tup [.str "frame", .int (p % 15 - 1)])) t2 (.tup [.str "frame", .int (p % 15 - 1), .int 1])) t3 (.tup [.str "swap", .bl true])) t4 (.tup [.str "swap", .int (p % 15 - 1), .int 0])) t5 (.tup [.str "file", .int 0]))
      t6 (.tup [.str "held", .int 1])) t7 (.tup [])) L2 (.lst [.ref t1, .ref t2, .ref t3, .ref t4, .ref t5, .ref t6, .ref t7, .str "held"]) := ⟨_, rfl⟩
    obtain ⟨H2, e2⟩ := e2
    rw [← e2]
    have s7 := Same.new (o := .lst [.ref t1, .ref t2, .ref t3, .ref t4, .ref t5, .ref t6, .ref t7, .str "held"]) hL2
    have s6 := (Same.new (o := .tup []) h7).trans s7
    have s5 := (Same.new (o := .tup [.str "held", .int 1]) h6).trans s6
    have s4 := (Same.new (o := .tup [.str "file", .int 0]) h5).trans s5
    have s3 := (Same.new (o := .tup [.str "swap", .int (p % 15 - 1), .int 0]) h4).trans s4
    have s2 := (Same.new (o := .tup [.str "swap", .bl true]) h3).trans s3
    have s1 := (Same.new (o := .tup [.str "frame", .int (p % 15 - 1), .int 1]) h2).trans s2
    have s0 := (Same.new (o := .tup [.str "frame", .int (p % 15 - 1)]) h1).trans s1
    have hl2 : H2 L2 = some (.lst [.ref t1, .ref t2, .ref t3, .ref t4, .ref t5, .ref t6, .ref t7, .str "held"]) := by rw [e2]; exact upd_same
    have G2 : Good K H2 [.ref t1, .ref t2, .ref t3, .ref t4, .ref t5, .ref t6, .ref t7, .str "held"] := by
      rw [e2]
      exact gc (g2 (s1 _ _ upd_same) (.str _) sF (.int _) (sh_int _)) (gc (g3 (s2 _ _ upd_same) (.str _) sF (.int _) (sh_int _) (.int _) (sh_int _)) (gc (g2 (s3 _ _ upd_same) (.str _) sS (.bl _) (sh_bool _)) (gc (g3 (s4 _ _ upd_same) (.str _) sS (.int _) (sh_int _) (.int _) (sh_int _))
        (gc (g2 (s5 _ _ upd_same) (.str _) sL (.int _) (sh_int _)) (gc (g2 (s6 _ _ upd_same) (.str _) sH (.int _) (sh_int _)) (gc ⟨.tuple [], .tup (SqT.of (s7 _ _ upd_same)) .nil, (sh_tup (n := 0) sh_n).up (by decide)⟩ (gc ⟨.str "held", .str _, sH.up (by decide)⟩ Good.nil)))))))
    have S2 : Same H1 H2 := by rw [e2]; exact s0
    obtain ⟨M2, eM2⟩ : ∃ M, M = [V.ref t1, .ref t2, .ref t3, .ref t4, .ref t5, .ref t6, .ref t7, .str "held"] := ⟨_, rfl⟩
    rw [← eM2] at hl2 G2
    have len2 : M2.length = 8 := by rw [eM2]; rfl
    clear e2 s0 s1 s2 s3 s4 s5 s6 s7 eM2
    refine ⟨L1, L2, _, _, rfl, rfl, S2 _ _ hl1, hl2, (by rw [len1, len2]; decide), fun L3 hL3 => ?_⟩
    have s8 := Same.new (o := .lst (M1 ++ M2)) hL3
    have G3 := ((G1.mono S2).app G2).mono s8
    have hl3 : upd H2 L3 (.lst (M1 ++ M2)) L3 = some (.lst (M1 ++ M2)) := upd_same
    have S3 := (S1.trans S2).trans s8
    have len3 : (M1 ++ M2).length = 14 := by rw [List.length_append, len1, len2]
    generalize upd H2 L3 (.lst (M1 ++ M2)) = H3 at s8 G3 hl3 S3 ⊢
    generalize M1 ++ M2 = M3 at G3 hl3 len3 ⊢
    clear s8 G1 G2 hl1 hl2 S1 S2 hL3 hL2 hL1
    refine ⟨_, rfl, _, rfl, (by show 2 ≤ sizeLine; decide), fun t1 h1 => ⟨(by show 2 ≤ sizeLine; decide), fun t2 h2 => ⟨(by show 2 ≤ sizeLine; decide), fun t3 h3 => ⟨(by show 3 ≤ sizeLine; decide), fun t4 h4 =>
      ⟨(by show 3 ≤ sizeLine; decide), fun t5 h5 => ⟨(by show 3 ≤ sizeLine; decide), fun t6 h6 => ⟨(by show 7 ≤ sizeLine; decide), fun L4 hL4 => ?_⟩⟩⟩⟩⟩⟩⟩
    have e2 : ∃ H4, H4 = upd (upd (upd (upd (upd (upd (upd H3 t1 (.lst [.str "swap", .int 1])) t2 (.tup [.str "other", .int 1])) t3 (.tup [.int 0, .int 1])) t4 (.tup [.str "file", .int 0, .int 4])) t5 (.tup [.str "file", .int 1, .int 3]))
      t6 (.tup [.str "frame", .non, .bl true])) L4 (.lst [.int (p % 15 - 1), .ref t1, .ref t2, .ref t3, .ref t4, .ref t5, .ref t6]) := ⟨_, rfl⟩
    obtain ⟨H4, e2⟩ := e2
    show ∃ a b xs ys, _
    rw [← e2]
    have s6 := Same.new (o := .lst [.int (p % 15 - 1), .ref t1, .ref t2, .ref t3, .ref t4, .ref t5, .ref t6]) hL4
    have s5 := (Same.new (o := .tup [.str "frame", .non, .bl true]) h6).trans s6
    have s4 := (Same.new (o := .tup [.str "file", .int 1, .int 3]) h5).trans s5
    have s3 := (Same.new (o := .tup [.str "file", .int 0, .int 4]) h4).trans s4
    have s2 := (Same.new (o := .tup [.int 0, .int 1]) h3).trans s3
    have s1 := (Same.new (o := .tup [.str "other", .int 1]) h2).trans s2
    have s0 := (Same.new (o := .lst [.str "swap", .int 1]) h1).trans s1
    have hl4 : H4 L4 = some (.lst [.int (p % 15 - 1), .ref t1, .ref t2, .ref t3, .ref t4, .ref t5, .ref t6]) := by rw [e2]; exact upd_same
    have G4 : Good K H4 [.int (p % 15 - 1), .ref t1, .ref t2, .ref t3, .ref t4, .ref t5, .ref t6] := by
      rw [e2]
      exact gc ⟨.int _, .int _, (sh_int _).up (by decide)⟩ (gc ⟨.list [.str "swap", .int 1], .lst (SqL.of (s1 _ _ upd_same)) (.cons (.str _) (.cons (.int _) .nil)), (sh_lst (sh_c sS (sh_c (sh_int _) sh_n))).up (by decide)⟩
        (gc (g2 (s2 _ _ upd_same) (.str _) sO (.int _) (sh_int _)) (gc (g2 (s3 _ _ upd_same) (.int _) (sh_int _) (.int _) (sh_int _)) (gc (g3 (s4 _ _ upd_same) (.str _) sL (.int _) (sh_int _) (.int _) (sh_int _))
        (gc (g3 (s5 _ _ upd_same) (.str _) sL (.int _) (sh_int _) (.int _) (sh_int _)) (gc (g3 (s6 _ _ upd_same) (.str _) sF .non sh_none (.bl _) (sh_bool _)) Good.nil))))))
    have S4 : Same H3 H4 := by rw [e2]; exact s0
    obtain ⟨M4, eM4⟩ : ∃ M, M = [V.int (p % 15 - 1), .ref t1, .ref t2, .ref t3, .ref t4, .ref t5, .ref t6] := ⟨_, rfl⟩
    rw [← eM4] at hl4 G4
    have len4 : M4.length = 7 := by rw [eM4]; rfl
    clear e2 s0 s1 s2 s3 s4 s5 s6 eM4
    refine ⟨L3, L4, _, _, rfl, rfl, S4 _ _ hl3, hl4, (by rw [len3, len4]; decide), fun L5 hL5 => ?_⟩
    have s8 := Same.new (o := .lst (M3 ++ M4)) hL5
    have G5 := ((G3.mono S4).app G4).mono s8
    have hl5 : upd H4 L5 (.lst (M3 ++ M4)) L5 = some (.lst (M3 ++ M4)) := upd_same
    have S5 := (S3.trans S4).trans s8
    have len5 : (M3 ++ M4).length = 21 := by rw [List.length_append, len3, len4]
    generalize upd H4 L5 (.lst (M3 ++ M4)) = H5 at s8 G5 hl5 S5 ⊢
    generalize M3 ++ M4 = M5 at G5 hl5 len5 ⊢
    have a0 := Int.emod_nonneg n (by decide : (21 : Int) ≠ 0)
    have a1 := Int.emod_lt_of_pos n (by decide : (0 : Int) < 21)
    have hj : (n % 21).toNat < M5.length := by rw [len5]; omega
    obtain ⟨d, hd, sd⟩ := G5 M5[(n % 21).toNat] (List.getElem_mem hj)
    exact ⟨_, rfl, _, rfl, _, _, rfl, rfl, (by show (0 : Int) < 21; decide), L5, _, _, M5[(n % 21).toNat], rfl, rfl, SqL.of hl5, at_of (j := (n % 21).toNat) (by omega) (List.getElem?_eq_getElem hj), q _ d H5 S5 hd sd⟩
end

section
variable {P : Program} {w : World} {K : PySem.W.Frag} {mg : Str → Option Value} {base : Heap} {a : Ad}
def spLaw (K : PySem.W.Frag) : Sp := fun vs H Q _ => ∃ (p : Addr) (ns : List Int), vs = [.ref p] ∧ SqL K H p (ns.map V.int) ∧ ns.length ≤ 63 ∧ ∀ H', Q (.bl true) H'
theorem ok_law (T : Txt K mg a) : FnOk P w K mg base CX0 8 a.f_law a.d_law ["script"] (spLaw K) := by
  refine T.F_law.ok sc_law (fun vs H Q E h => ?_) (fun cdv A outer s H vs Q E hr h => ?_)
  · obtain ⟨p, ns, rfl, _⟩ := h
    rfl
  · obtain ⟨sp, ns, rfl, hS, hlen, q⟩ := h
    refine ⟨_, (pss_cons (ps_set (i := 1) sc_law.nd rfl (Or.inl rfl) (pe_call (ok__law_tape T) (hr.mono (by decide)) rfl T.m__law_tape T.F__law_tape.kp T.B__law_tape .nil pass0 (pa_cons (pv 0) pa_nil)))
    (pss_cons (ps_set (i := 2) sc_law.nd rfl (Or.inl rfl) (pe_op op_add pe_int (pe_op op_mod (pe_call (ok__law_at T) (hr.mono (by decide)) rfl T.m__law_at T.F__law_at.kp T.B__law_at .nil pass0 (pa_cons (pv 1) (pa_cons pe_int pa_nil))) pe_int)))
    (pss_cons (ps_set (i := 3) sc_law.nd rfl (Or.inl rfl) (pe_op op_mod (pe_call (ok__law_at T) (hr.mono (by decide)) rfl T.m__law_at T.F__law_at.kp T.B__law_at .nil pass0 (pa_cons (pv 1) (pa_cons pe_int pa_nil))) pe_int))
    (pss_cons (ps_set (i := 4) sc_law.nd rfl (Or.inl rfl) (pe_make T.mk_Sizes (ok_Sizes_init T) (hr.mono (by decide)) rfl T.m_Sizes T.B_Sizes_init .nil passL (pa_cons pe_int (pa_cons (pv 2) (pa_cons (pv 3) pa_nil)))))
    (pss_cons (ps_for PassesOwn.never rfl (pi_range1 rfl T.b_range (pa_cons (pe_callB (call_min2 rfl) (by rfl) T.b_min (by decide +kernel) (pa_cons pe_int (pa_cons (pe_op op_add pe_int (pe_op op_fdiv (pe_callB call_len_seq (by rfl) T.b_len (by decide +kernel) (pa_cons (pv 1) pa_nil)) pe_int)) pa_nil))) pa_nil)) (pg_name (i := 5) sc_law.nd rfl (Or.inl rfl))
    (pss_cons (ps_set (i := 6) sc_law.nd rfl (Or.inl rfl) (pe_call (ok__law_value T) (hr.mono (by decide)) rfl T.m__law_value T.F__law_value.kp T.B__law_value .nil pass0 (pa_cons (pe_call (ok__law_at T) (hr.mono (by decide)) rfl T.m__law_at T.F__law_at.kp T.B__law_at .nil pass0 (pa_cons (pv 1) (pa_cons (pe_op op_add (pe_op op_mul pe_int (pv 5)) pe_int) pa_nil))) (pa_cons (pe_call (ok__law_at T) (hr.mono (by decide)) rfl T.m__law_at T.F__law_at.kp T.B__law_at .nil pass0 (pa_cons (pv 1) (pa_cons (pe_op op_add (pe_op op_mul pe_int (pv 5)) pe_int) pa_nil))) pa_nil))))
    (pss_cons (ps_set (i := 7) sc_law.nd rfl (Or.inl rfl) (pe_call (ok__law_is T) (hr.mono (by decide)) rfl T.m__law_is T.F__law_is.kp T.B__law_is .nil pass0 (pa_cons (pv 6) (pa_cons (pv 2) (pa_cons (pv 3) pa_nil)))))
    (pss_cons (ps_set (i := 8) sc_law.nd rfl (Or.inl rfl) (pe_call (ok_is_word T) (hr.mono (by decide)) rfl T.m_is_word T.F_is_word.kp T.B_is_word .nil pass0 (pa_cons (pv 6) (pa_cons (pv 4) pa_nil))))
    (pss_cons (ps_if (PW.pt (pw_or (pt_not (pt_val (pe_callB call_isi (by rfl) T.b_isinstance (by decide +kernel) (pa_cons (pv 8) (pa_cons (pe_bltn (v := .ty "bool") rfl T.b_bool (by decide +kernel) rfl) pa_nil))))) (pw_or1 (pt_cmpR (op_ne) (pv 8) (pv 7) (nomark _))))) (pss_one (ps_ret pe_bl)) pss_nil)
    (pss_one (ps_if (pt_val (pv 7)) (pss_cons (ps_set (i := 9) sc_law.nd rfl (Or.inl rfl) pe_non)
    (pss_cons (ps_set (i := 10) sc_law.nd rfl (Or.inl rfl) pe_non)
    (pss_cons (ps_set (i := 11) sc_law.nd rfl (Or.inl rfl) pe_bl)
    (pss_cons (ps_set (i := 12) sc_law.nd rfl (Or.inl rfl) (pv 6))
    (pss_mid (ps_if (PW.pt (pw_and (pt_cmpR (op_notN) (pv 6) pe_non (by rfl)) (pw_and1 (pt_cmpR (op_eqD hr.units) (pe_ix ix_tup (pv 6) pe_int (fun _ _ => rfl)) pe_str (nomark _))))) (pss_cons (ps_set (i := 9) sc_law.nd rfl (Or.inl rfl) (pe_ix ix_tup (pv 6) pe_int (fun _ _ => rfl)))
    (pss_cons (ps_set (i := 11) sc_law.nd rfl (Or.inl rfl) (pe_ix ix_tup (pv 6) pe_int (fun _ _ => rfl)))
    (pss_one (ps_set (i := 12) sc_law.nd rfl (Or.inl rfl) (pe_tup (pa_cons pe_str (pa_cons (pe_ix ix_tup (pv 6) pe_int (fun _ _ => rfl)) (pa_cons pe_bl pa_nil)))))))) pss_nil)
    (pss_mid (ps_if (PW.pt (pw_and (pt_cmpR (op_notN) (pv 6) pe_non (by rfl)) (pw_and1 (pt_cmpR (op_eqD hr.units) (pe_ix ix_tup (pv 6) pe_int (fun _ _ => rfl)) pe_str (nomark _))))) (pss_one (ps_set (i := 10) sc_law.nd rfl (Or.inl rfl) (pe_ix ix_tup (pv 6) pe_int (fun _ _ => rfl)))) pss_nil)
    (pss_cons (ps_if (PW.pt (pw_or (pt_not (pt_val (pe_call (ok__law_none T) (hr.mono (by decide)) rfl T.m__law_none T.F__law_none.kp T.B__law_none .nil pass0 (pa_cons (pe_call (ok_frame_of T) (hr.mono (by decide)) rfl T.m_frame_of T.F_frame_of.kp T.B_frame_of .nil pass0 (pa_cons (pv 6) pa_nil)) (pa_cons (pv 9) pa_nil))))) (pw_or1 (pt_not (pt_val (pe_call (ok__law_none T) (hr.mono (by decide)) rfl T.m__law_none T.F__law_none.kp T.B__law_none .nil pass0 (pa_cons (pe_call (ok_block_of T) (hr.mono (by decide)) rfl T.m_block_of T.F_block_of.kp T.B_block_of .nil pass0 (pa_cons (pv 6) pa_nil)) (pa_cons (pv 10) pa_nil)))))))) (pss_one (ps_ret pe_bl)) pss_nil)
    (pss_cons (ps_set (i := 13) sc_law.nd rfl (Or.inl rfl) (pe_call (ok_is_writable T) (hr.mono (by decide)) rfl T.m_is_writable T.F_is_writable.kp T.B_is_writable .nil pass0 (pa_cons (pv 6) pa_nil)))
    (pss_one (ps_if (PW.pt (pw_or (pt_not (pt_val (pe_callB call_isi (by rfl) T.b_isinstance (by decide +kernel) (pa_cons (pv 13) (pa_cons (pe_bltn (v := .ty "bool") rfl T.b_bool (by decide +kernel) rfl) pa_nil))))) (pw_or (pt_cmpR (op_ne) (pv 13) (pv 11) (nomark _)) (pw_or1 (pt_cmpR (op_neD hr.units) (pe_call (ok_read_only T) (hr.mono (by decide)) rfl T.m_read_only T.F_read_only.kp T.B_read_only .nil pass0 (pa_cons (pv 6) pa_nil)) (pv 12) (nomark _)))))) (pss_one (ps_ret pe_bl)) pss_nil)))))))))) pss_nil)))))))
    (pss_one (ps_ret pe_bl))))))), ?_⟩
    refine ⟨_, rfl, sp, ns, rfl, hS, hlen, fun H1 tp ts e1 tp0 tpL dg tl => ?_⟩
    refine ⟨_, rfl, tp, ts, 0, rfl, SqL.of tpL, by decide, dg, fun x0 x0a x0b => ⟨_, _, rfl, rfl, (by show (0 : Int) < 11; decide), _, _, rfl, rfl, ?_⟩⟩
    refine ⟨_, rfl, tp, ts, 1, rfl, SqL.of tpL, by decide, dg, fun x1 x1a x1b => ⟨_, _, rfl, rfl, (by show (0 : Int) < 13; decide), ?_⟩⟩
    obtain ⟨f, ef⟩ : ∃ f, f = 2 + x0 % 11 := ⟨_, rfl⟩
    obtain ⟨b, eb⟩ : ∃ b, b = x1 % 13 := ⟨_, rfl⟩
    have okS : okSz 1 f b = true := by
      have a0 := Int.emod_nonneg x0 (by decide : (11 : Int) ≠ 0)
      have a1 := Int.emod_lt_of_pos x0 (by decide : (0 : Int) < 11)
      have b0 := Int.emod_nonneg x1 (by decide : (13 : Int) ≠ 0)
      have b1 := Int.emod_lt_of_pos x1 (by decide : (0 : Int) < 13)
      simp only [okSz, Bool.and_eq_true, decide_eq_true_eq]
      omega
    refine ⟨_, rfl, _, rfl, fun z dx nz ndx nzd => ⟨z, dx, 1, f, b, by rw [ef, eb]; rfl, upd_same, fun _ H2 s2 hz => ⟨rfl, ?_⟩, fun k => absurd (okS.symm.trans k) (by decide)⟩⟩
    have ntp : tp ≠ z := fun e => by rw [e, nz] at tpL; cases tpL
    have ntd : tp ≠ dx := fun e => by rw [e, ndx] at tpL; cases tpL
    have tpL2 : H2 tp = some (.lst (ts.map V.int)) := s2 _ _ ntp (by rw [upd_ne ntp, upd_ne ntd]; exact tpL)
    clear s2
    refine ⟨_, rfl, tp, _, rfl, .inl (SqL.of tpL2), _, _, rfl, rfl, ⟨by decide, by decide⟩, _, _, rfl, rfl, _, _, rfl, ?_⟩
    have lb : (0 : Int) ≤ ((ts.map V.int).length : Int) / 2 := Int.ediv_nonneg (Int.natCast_nonneg _) (by decide)
    refine ⟨_, rfl, ?_, ?_, for_range (lo := 0) (n := (if 1 + ((ts.map V.int).length : Int) / 2 < 20 then 1 + ((ts.map V.int).length : Int) / 2 else 20).toNat)
      (fun i σ H' => ∃ (x5 x6 x7 x8 x9 x10 x11 x12 x13 : Option V), σ = [some (.ref sp), some (.ref tp), some (.int (2 + x0 % 11)), some (.int (x1 % 13)), some (.ref z), x5, x6, x7, x8, x9, x10, x11, x12, x13] ∧ Same H2 H')
      ⟨none, none, none, none, none, none, none, none, none, rfl, Same.refl H2⟩ ?_ ?_⟩
    · split <;> omega
    · split <;> omega
    · rintro i σ H5 hi ⟨x5, x6, x7, x8, x9, x10, x11, x12, x13, rfl, eS⟩
      refine ⟨_, rfl, _, rfl, _, _, rfl, rfl, .inl ⟨by decide, by decide⟩, _, _, rfl, rfl, tp, ts, _, rfl, SqL.of (eS _ _ tpL2), by omega, dg, fun num n0 n1 => ?_⟩
      refine ⟨_, rfl, _, rfl, _, _, rfl, rfl, .inl ⟨by decide, by decide⟩, _, _, rfl, rfl, tp, ts, _, rfl, SqL.of (eS _ _ tpL2), by omega, dg, fun pick p0 p1 => ?_⟩
      refine ⟨num, pick, rfl, n0, fun y d H6 e6 hy sh => ?_⟩
      have eS6 := eS.trans e6
      refine ⟨_, rfl, _, rfl, _, rfl, y, d, f, b, by rw [ef, eb]; rfl, hy, sh.up (by decide), ?_⟩
      refine ⟨_, rfl, _, rfl, y, d, z, dx, 1, f, b, rfl, hy, sh.up (by decide), eS6 _ _ hz, fun H7 e7 => ?_⟩
      have eS7 := eS6.trans e7
      have hy7 := dp_mono e7 hy
      refine ⟨_, rfl, _, _, _, _, _, rfl, .ty _, tyx (K := K) (H := H7) (.bl _), kit_bool _, _, rfl, iteF ⟨_, rfl, _, rfl, rfl, _, rfl, ifF (by simp) ?_⟩⟩
      refine ⟨_, rfl, _, rfl, ?_⟩
      cases ew : wordM f b d with
      | false => exact iteF ⟨_, _, _, _, _, _, _, _, _, rfl, eS7⟩
      | true =>
      obtain ⟨x, rfl⟩ := w2_of ew
      refine iteT ⟨_, rfl, ?_⟩
      refine ⟨fun σ' H' => ∃ yl, σ' = [some (.ref sp), some (.ref tp), some (.int (2 + x0 % 11)), some (.int (x1 % 13)), some (.ref z), some (.int (0 + (i : Int))), some y, some (.bl true), some (.bl true), some (optV x.frame?), some .non, some (.bl x.wr), some yl, x13] ∧
        Same H7 H' ∧ Dp K H' yl (w2D x.less), ?_, ?_⟩
      · refine ⟨_, rfl, rfl, _, rfl, ?_⟩
        cases x with
        | non =>
          cases hy7
          exact iteF ⟨.non, rfl, Same.refl H7, .non⟩
        | frame fr wr =>
          cases hy7 with
          | @tup t xs _ sT aT =>
          cases aT with
          | cons d0 aT =>
          cases aT with
          | cons d1 aT =>
          cases aT with
          | cons d2 aT =>
          cases aT
          cases d0
          cases d1
          cases d2
          refine iteT ⟨_, rfl, _, _, _, _, rfl, rfl, sT, at_of (j := 0) rfl rfl, _, _, .str _, .str _, (sh_str _ (by decide +kernel)).ok, (sh_str _ (by decide +kernel)).ok, _, rfl, ?_⟩
          rw [eqv_str]
          refine iteT ⟨_, rfl, _, _, _, _, rfl, rfl, sT, at_of (j := 1) rfl rfl, _, rfl, _, _, _, _, rfl, rfl, sT, at_of (j := 2) rfl rfl, _, rfl, _, _, _, _, rfl, rfl, sT, at_of (j := 1) rfl rfl, (by show 3 ≤ sizeLine; decide), fun t2 ht2 => ?_⟩
          exact ⟨.ref t2, rfl, Same.new ht2, .tup (SqT.of upd_same) (.cons (.str _) (.cons (.int _) (.cons (.bl _) .nil)))⟩
        | swap n =>
          have hy8 := hy7
          cases hy7 with
          | @tup t xs _ sT aT =>
          cases aT with
          | cons d0 aT =>
          cases d0
          refine iteT ⟨_, rfl, _, _, _, _, rfl, rfl, sT, at_of (j := 0) rfl rfl, _, _, .str _, .str _, (sh_str _ (by decide +kernel)).ok, (sh_str _ (by decide +kernel)).ok, _, rfl, ?_⟩
          rw [eqv_str]
          exact ifF (by decide +kernel) ⟨_, rfl, Same.refl H7, hy8⟩
        | file u v =>
          have hy8 := hy7
          cases hy7 with
          | @tup t xs _ sT aT =>
          cases aT with
          | cons d0 aT =>
          cases d0
          refine iteT ⟨_, rfl, _, _, _, _, rfl, rfl, sT, at_of (j := 0) rfl rfl, _, _, .str _, .str _, (sh_str _ (by decide +kernel)).ok, (sh_str _ (by decide +kernel)).ok, _, rfl, ?_⟩
          rw [eqv_str]
          exact ifF (by decide +kernel) ⟨_, rfl, Same.refl H7, hy8⟩
        | held =>
          have hy8 := hy7
          cases hy7 with
          | @tup t xs _ sT aT =>
          cases aT with
          | cons d0 aT =>
          cases d0
          refine iteT ⟨_, rfl, _, _, _, _, rfl, rfl, sT, at_of (j := 0) rfl rfl, _, _, .str _, .str _, (sh_str _ (by decide +kernel)).ok, (sh_str _ (by decide +kernel)).ok, _, rfl, ?_⟩
          rw [eqv_str]
          exact ifF (by decide +kernel) ⟨_, rfl, Same.refl H7, hy8⟩
      · rintro σ8 H8 ⟨yl, rfl, e8, hl8⟩
        have hy8 := dp_mono e8 hy7
        have eS8 := eS7.trans e8
        refine ⟨fun σ' H' => H' = H8 ∧ σ' = [some (.ref sp), some (.ref tp), some (.int (2 + x0 % 11)), some (.int (x1 % 13)), some (.ref z), some (.int (0 + (i : Int))), some y, some (.bl true), some (.bl true), some (optV x.frame?), some (optV x.block?), some (.bl x.wr), some yl, x13], ?_, ?_⟩
        · refine ⟨_, rfl, rfl, _, rfl, ?_⟩
          cases x with
          | non =>
            cases hy8
            exact iteF ⟨rfl, rfl⟩
          | swap n =>
            cases hy8 with
            | @tup t xs _ sT aT =>
            cases aT with
            | cons d0 aT =>
            cases aT with
            | cons d1 aT =>
            cases d0
            cases d1
            refine iteT ⟨_, rfl, _, _, _, _, rfl, rfl, sT, at_of (j := 0) rfl rfl, _, _, .str _, .str _, (sh_str _ (by decide +kernel)).ok, (sh_str _ (by decide +kernel)).ok, _, rfl, ?_⟩
            rw [eqv_str]
            exact iteT ⟨_, rfl, _, _, _, _, rfl, rfl, sT, at_of (j := 1) rfl rfl, rfl, rfl⟩
          | frame fr wr =>
            cases hy8 with
            | @tup t xs _ sT aT =>
            cases aT with
            | cons d0 aT =>
            cases d0
            refine iteT ⟨_, rfl, _, _, _, _, rfl, rfl, sT, at_of (j := 0) rfl rfl, _, _, .str _, .str _, (sh_str _ (by decide +kernel)).ok, (sh_str _ (by decide +kernel)).ok, _, rfl, ?_⟩
            rw [eqv_str]
            exact ifF (by decide +kernel) ⟨rfl, rfl⟩
          | file u v =>
            cases hy8 with
            | @tup t xs _ sT aT =>
            cases aT with
            | cons d0 aT =>
            cases d0
            refine iteT ⟨_, rfl, _, _, _, _, rfl, rfl, sT, at_of (j := 0) rfl rfl, _, _, .str _, .str _, (sh_str _ (by decide +kernel)).ok, (sh_str _ (by decide +kernel)).ok, _, rfl, ?_⟩
            rw [eqv_str]
            exact ifF (by decide +kernel) ⟨rfl, rfl⟩
          | held =>
            cases hy8 with
            | @tup t xs _ sT aT =>
            cases aT with
            | cons d0 aT =>
            cases d0
            refine iteT ⟨_, rfl, _, _, _, _, rfl, rfl, sT, at_of (j := 0) rfl rfl, _, _, .str _, .str _, (sh_str _ (by decide +kernel)).ok, (sh_str _ (by decide +kernel)).ok, _, rfl, ?_⟩
            rw [eqv_str]
            exact ifF (by decide +kernel) ⟨rfl, rfl⟩
        · rintro σ9 H9 ⟨rfl, rfl⟩
          refine ⟨_, rfl, y, x, rfl, hy8, _, rfl, x.frame?, x.frame?, rfl, _, rfl, ifF (by simp) ?_⟩
          refine ⟨_, rfl, y, x, rfl, hy8, _, rfl, x.block?, x.block?, rfl, _, rfl, ifF (by simp) ?_⟩
          refine ⟨_, rfl, y, x, rfl, hy8, ?_⟩
          refine ⟨_, rfl, _, _, _, _, _, rfl, .ty _, tyx (K := K) (H := H9) (.bl _), kit_bool _, _, rfl, iteF ⟨_, rfl, _, rfl, rfl, _, rfl, ifF (by simp) ?_⟩⟩
          refine ⟨_, rfl, y, x, rfl, hy8, fun y2 H10 e10 hy2 => ⟨_, rfl, _, _, hy2, dp_mono e10 hl8, (sh_w2 _).ok, (sh_w2 _).ok, _, rfl, ifF (by rw [(sh_w2 _).refl]; rfl) ?_⟩⟩
          exact ⟨_, _, _, _, _, _, _, _, _, rfl, eS8.trans e10⟩
    · rintro σ H' _
      exact q _
end
theorem all_mk {l : PySem.W.OpenLaw} {w : World} {K : PySem.W.Frag} {h : Heap} {mg : Str → Option Value} {fa : Addr} (X : K.In h) (G : h.Ns mainGlobals mg) (hfa : mg "law" = some (.ref fa))
    {C_PageError C_NotValid C_Sizes f_leads_to_frame f_PageError_init f_is_whole f_is_number_below f_is_tuple_of f_is_between f_Sizes_init f_Sizes_word f_is_word f_frame_of f_block_of f_is_writable f_read_only f__law_tape f__law_at f__law_value f__law_number f__law_is f__law_none f_law : Addr}
    {od_leads_to_frame an_leads_to_frame : Option Addr} {sl_leads_to_frame : Array (Option Value)} {oc_leads_to_frame kV_leads_to_frame dc_leads_to_frame pm_leads_to_frame cd_leads_to_frame ct_leads_to_frame : Value}
    {od_PageError_init an_PageError_init : Option Addr} {sl_PageError_init : Array (Option Value)} {oc_PageError_init kV_PageError_init dc_PageError_init pm_PageError_init cd_PageError_init ct_PageError_init : Value}
    {od_is_whole an_is_whole : Option Addr} {sl_is_whole : Array (Option Value)} {oc_is_whole kV_is_whole dc_is_whole pm_is_whole cd_is_whole ct_is_whole : Value}
    {od_is_number_below an_is_number_below : Option Addr} {sl_is_number_below : Array (Option Value)} {oc_is_number_below kV_is_number_below dc_is_number_below pm_is_number_below cd_is_number_below ct_is_number_below : Value}
    {od_is_tuple_of an_is_tuple_of : Option Addr} {sl_is_tuple_of : Array (Option Value)} {oc_is_tuple_of kV_is_tuple_of dc_is_tuple_of pm_is_tuple_of cd_is_tuple_of ct_is_tuple_of : Value}
    {od_is_between an_is_between : Option Addr} {sl_is_between : Array (Option Value)} {oc_is_between kV_is_between dc_is_between pm_is_between cd_is_between ct_is_between : Value}
    {od_Sizes_init an_Sizes_init : Option Addr} {sl_Sizes_init : Array (Option Value)} {oc_Sizes_init kV_Sizes_init dc_Sizes_init pm_Sizes_init cd_Sizes_init ct_Sizes_init : Value}
    {od_Sizes_word an_Sizes_word : Option Addr} {sl_Sizes_word : Array (Option Value)} {oc_Sizes_word kV_Sizes_word dc_Sizes_word pm_Sizes_word cd_Sizes_word ct_Sizes_word : Value}
    {od_is_word an_is_word : Option Addr} {sl_is_word : Array (Option Value)} {oc_is_word kV_is_word dc_is_word pm_is_word cd_is_word ct_is_word : Value}
    {od_frame_of an_frame_of : Option Addr} {sl_frame_of : Array (Option Value)} {oc_frame_of kV_frame_of dc_frame_of pm_frame_of cd_frame_of ct_frame_of : Value}
    {od_block_of an_block_of : Option Addr} {sl_block_of : Array (Option Value)} {oc_block_of kV_block_of dc_block_of pm_block_of cd_block_of ct_block_of : Value}
    {od_is_writable an_is_writable : Option Addr} {sl_is_writable : Array (Option Value)} {oc_is_writable kV_is_writable dc_is_writable pm_is_writable cd_is_writable ct_is_writable : Value}
    {od_read_only an_read_only : Option Addr} {sl_read_only : Array (Option Value)} {oc_read_only kV_read_only dc_read_only pm_read_only cd_read_only ct_read_only : Value}
    {od__law_tape an__law_tape : Option Addr} {sl__law_tape : Array (Option Value)} {oc__law_tape kV__law_tape dc__law_tape pm__law_tape cd__law_tape ct__law_tape : Value}
    {od__law_at an__law_at : Option Addr} {sl__law_at : Array (Option Value)} {oc__law_at kV__law_at dc__law_at pm__law_at cd__law_at ct__law_at : Value}
    {od__law_value an__law_value : Option Addr} {sl__law_value : Array (Option Value)} {oc__law_value kV__law_value dc__law_value pm__law_value cd__law_value ct__law_value : Value}
    {od__law_number an__law_number : Option Addr} {sl__law_number : Array (Option Value)} {oc__law_number kV__law_number dc__law_number pm__law_number cd__law_number ct__law_number : Value}
    {od__law_is an__law_is : Option Addr} {sl__law_is : Array (Option Value)} {oc__law_is kV__law_is dc__law_is pm__law_is cd__law_is ct__law_is : Value}
    {od__law_none an__law_none : Option Addr} {sl__law_none : Array (Option Value)} {oc__law_none kV__law_none dc__law_none pm__law_none cd__law_none ct__law_none : Value}
    {od_law an_law : Option Addr} {sl_law : Array (Option Value)} {oc_law kV_law dc_law pm_law cd_law ct_law : Value}
    {t_CELLS : Tok}
    {t_FILES : Tok}
    {t_FILE_PAGES : Tok}
    {t_PAGES : Tok}
    {t_SPACES : Tok}
    {nmX qX : Str} {NX : Addr} {bsX : List Value} {snX : List Str} {subX : List Value} {abX : Bool} {colX : Option Bool} {ddX : Option Addr} {x0 x1 x2 x3 x5 : Option Value}
    (g_PageError : PySem.W.nsIn K mainGlobals "PageError" = some (some (.ref C_PageError)))
    (g_NotValid : PySem.W.nsIn K mainGlobals "NotValid" = some (some (.ref C_NotValid)))
    (g_Sizes : PySem.W.nsIn K mainGlobals "Sizes" = some (some (.ref C_Sizes)))
    (a_leads_to_frame : PySem.W.nsIn K mainGlobals "leads_to_frame" = some (some (.ref f_leads_to_frame)))
    (l_leads_to_frame : K.lookup f_leads_to_frame = some ⟨oc_leads_to_frame, od_leads_to_frame, .func (PySem.W.fnOf "leads_to_frame" "leads_to_frame" (defArgs s_leads_to_frame) (defBody s_leads_to_frame) (defScope s_leads_to_frame) .none kV_leads_to_frame dc_leads_to_frame pm_leads_to_frame an_leads_to_frame cd_leads_to_frame ct_leads_to_frame), sl_leads_to_frame⟩)
    (c_leads_to_frame : PySem.W.codeIn K cd_leads_to_frame "leads_to_frame" = true)
    (k_leads_to_frame : PySem.W.keepIn K (.ref f_leads_to_frame) = true)
    (a_PageError_init : PySem.W.findIn K (.ref C_PageError) "__init__" = some (some (.ref f_PageError_init)))
    (i_PageError_init : PySem.W.isFn K (.ref f_PageError_init) = true)
    (l_PageError_init : K.lookup f_PageError_init = some ⟨oc_PageError_init, od_PageError_init, .func (PySem.W.fnOf "__init__" "PageError.__init__" (defArgs s_PageError_init) (defBody s_PageError_init) (defScope s_PageError_init) .none kV_PageError_init dc_PageError_init pm_PageError_init an_PageError_init cd_PageError_init ct_PageError_init), sl_PageError_init⟩)
    (c_PageError_init : PySem.W.codeIn K cd_PageError_init "PageError.__init__" = true)
    (k_PageError_init : PySem.W.keepIn K (.ref f_PageError_init) = true)
    (a_is_whole : PySem.W.nsIn K mainGlobals "is_whole" = some (some (.ref f_is_whole)))
    (l_is_whole : K.lookup f_is_whole = some ⟨oc_is_whole, od_is_whole, .func (PySem.W.fnOf "is_whole" "is_whole" (defArgs s_is_whole) (defBody s_is_whole) (defScope s_is_whole) .none kV_is_whole dc_is_whole pm_is_whole an_is_whole cd_is_whole ct_is_whole), sl_is_whole⟩)
    (c_is_whole : PySem.W.codeIn K cd_is_whole "is_whole" = true)
    (k_is_whole : PySem.W.keepIn K (.ref f_is_whole) = true)
    (a_is_number_below : PySem.W.nsIn K mainGlobals "is_number_below" = some (some (.ref f_is_number_below)))
    (l_is_number_below : K.lookup f_is_number_below = some ⟨oc_is_number_below, od_is_number_below, .func (PySem.W.fnOf "is_number_below" "is_number_below" (defArgs s_is_number_below) (defBody s_is_number_below) (defScope s_is_number_below) .none kV_is_number_below dc_is_number_below pm_is_number_below an_is_number_below cd_is_number_below ct_is_number_below), sl_is_number_below⟩)
    (c_is_number_below : PySem.W.codeIn K cd_is_number_below "is_number_below" = true)
    (k_is_number_below : PySem.W.keepIn K (.ref f_is_number_below) = true)
    (a_is_tuple_of : PySem.W.nsIn K mainGlobals "is_tuple_of" = some (some (.ref f_is_tuple_of)))
    (l_is_tuple_of : K.lookup f_is_tuple_of = some ⟨oc_is_tuple_of, od_is_tuple_of, .func (PySem.W.fnOf "is_tuple_of" "is_tuple_of" (defArgs s_is_tuple_of) (defBody s_is_tuple_of) (defScope s_is_tuple_of) .none kV_is_tuple_of dc_is_tuple_of pm_is_tuple_of an_is_tuple_of cd_is_tuple_of ct_is_tuple_of), sl_is_tuple_of⟩)
    (c_is_tuple_of : PySem.W.codeIn K cd_is_tuple_of "is_tuple_of" = true)
    (k_is_tuple_of : PySem.W.keepIn K (.ref f_is_tuple_of) = true)
    (a_is_between : PySem.W.nsIn K mainGlobals "is_between" = some (some (.ref f_is_between)))
    (l_is_between : K.lookup f_is_between = some ⟨oc_is_between, od_is_between, .func (PySem.W.fnOf "is_between" "is_between" (defArgs s_is_between) (defBody s_is_between) (defScope s_is_between) .none kV_is_between dc_is_between pm_is_between an_is_between cd_is_between ct_is_between), sl_is_between⟩)
    (c_is_between : PySem.W.codeIn K cd_is_between "is_between" = true)
    (k_is_between : PySem.W.keepIn K (.ref f_is_between) = true)
    (a_Sizes_init : PySem.W.findIn K (.ref C_Sizes) "__init__" = some (some (.ref f_Sizes_init)))
    (i_Sizes_init : PySem.W.isFn K (.ref f_Sizes_init) = true)
    (l_Sizes_init : K.lookup f_Sizes_init = some ⟨oc_Sizes_init, od_Sizes_init, .func (PySem.W.fnOf "__init__" "Sizes.__init__" (defArgs s_Sizes_init) (defBody s_Sizes_init) (defScope s_Sizes_init) .none kV_Sizes_init dc_Sizes_init pm_Sizes_init an_Sizes_init cd_Sizes_init ct_Sizes_init), sl_Sizes_init⟩)
    (c_Sizes_init : PySem.W.codeIn K cd_Sizes_init "Sizes.__init__" = true)
    (k_Sizes_init : PySem.W.keepIn K (.ref f_Sizes_init) = true)
    (a_Sizes_word : PySem.W.findIn K (.ref C_Sizes) "word" = some (some (.ref f_Sizes_word)))
    (i_Sizes_word : PySem.W.isFn K (.ref f_Sizes_word) = true)
    (l_Sizes_word : K.lookup f_Sizes_word = some ⟨oc_Sizes_word, od_Sizes_word, .func (PySem.W.fnOf "word" "Sizes.word" (defArgs s_Sizes_word) (defBody s_Sizes_word) (defScope s_Sizes_word) .none kV_Sizes_word dc_Sizes_word pm_Sizes_word an_Sizes_word cd_Sizes_word ct_Sizes_word), sl_Sizes_word⟩)
    (c_Sizes_word : PySem.W.codeIn K cd_Sizes_word "Sizes.word" = true)
    (k_Sizes_word : PySem.W.keepIn K (.ref f_Sizes_word) = true)
    (a_is_word : PySem.W.nsIn K mainGlobals "is_word" = some (some (.ref f_is_word)))
    (l_is_word : K.lookup f_is_word = some ⟨oc_is_word, od_is_word, .func (PySem.W.fnOf "is_word" "is_word" (defArgs s_is_word) (defBody s_is_word) (defScope s_is_word) .none kV_is_word dc_is_word pm_is_word an_is_word cd_is_word ct_is_word), sl_is_word⟩)
    (c_is_word : PySem.W.codeIn K cd_is_word "is_word" = true)
    (k_is_word : PySem.W.keepIn K (.ref f_is_word) = true)
    (a_frame_of : PySem.W.nsIn K mainGlobals "frame_of" = some (some (.ref f_frame_of)))
    (l_frame_of : K.lookup f_frame_of = some ⟨oc_frame_of, od_frame_of, .func (PySem.W.fnOf "frame_of" "frame_of" (defArgs s_frame_of) (defBody s_frame_of) (defScope s_frame_of) .none kV_frame_of dc_frame_of pm_frame_of an_frame_of cd_frame_of ct_frame_of), sl_frame_of⟩)
    (c_frame_of : PySem.W.codeIn K cd_frame_of "frame_of" = true)
    (k_frame_of : PySem.W.keepIn K (.ref f_frame_of) = true)
    (a_block_of : PySem.W.nsIn K mainGlobals "block_of" = some (some (.ref f_block_of)))
    (l_block_of : K.lookup f_block_of = some ⟨oc_block_of, od_block_of, .func (PySem.W.fnOf "block_of" "block_of" (defArgs s_block_of) (defBody s_block_of) (defScope s_block_of) .none kV_block_of dc_block_of pm_block_of an_block_of cd_block_of ct_block_of), sl_block_of⟩)
    (c_block_of : PySem.W.codeIn K cd_block_of "block_of" = true)
    (k_block_of : PySem.W.keepIn K (.ref f_block_of) = true)
    (a_is_writable : PySem.W.nsIn K mainGlobals "is_writable" = some (some (.ref f_is_writable)))
    (l_is_writable : K.lookup f_is_writable = some ⟨oc_is_writable, od_is_writable, .func (PySem.W.fnOf "is_writable" "is_writable" (defArgs s_is_writable) (defBody s_is_writable) (defScope s_is_writable) .none kV_is_writable dc_is_writable pm_is_writable an_is_writable cd_is_writable ct_is_writable), sl_is_writable⟩)
    (c_is_writable : PySem.W.codeIn K cd_is_writable "is_writable" = true)
    (k_is_writable : PySem.W.keepIn K (.ref f_is_writable) = true)
    (a_read_only : PySem.W.nsIn K mainGlobals "read_only" = some (some (.ref f_read_only)))
    (l_read_only : K.lookup f_read_only = some ⟨oc_read_only, od_read_only, .func (PySem.W.fnOf "read_only" "read_only" (defArgs s_read_only) (defBody s_read_only) (defScope s_read_only) .none kV_read_only dc_read_only pm_read_only an_read_only cd_read_only ct_read_only), sl_read_only⟩)
    (c_read_only : PySem.W.codeIn K cd_read_only "read_only" = true)
    (k_read_only : PySem.W.keepIn K (.ref f_read_only) = true)
    (a__law_tape : PySem.W.nsIn K mainGlobals "_law_tape" = some (some (.ref f__law_tape)))
    (l__law_tape : K.lookup f__law_tape = some ⟨oc__law_tape, od__law_tape, .func (PySem.W.fnOf "_law_tape" "_law_tape" (defArgs s__law_tape) (defBody s__law_tape) (defScope s__law_tape) .none kV__law_tape dc__law_tape pm__law_tape an__law_tape cd__law_tape ct__law_tape), sl__law_tape⟩)
    (c__law_tape : PySem.W.codeIn K cd__law_tape "_law_tape" = true)
    (k__law_tape : PySem.W.keepIn K (.ref f__law_tape) = true)
    (a__law_at : PySem.W.nsIn K mainGlobals "_law_at" = some (some (.ref f__law_at)))
    (l__law_at : K.lookup f__law_at = some ⟨oc__law_at, od__law_at, .func (PySem.W.fnOf "_law_at" "_law_at" (defArgs s__law_at) (defBody s__law_at) (defScope s__law_at) .none kV__law_at dc__law_at pm__law_at an__law_at cd__law_at ct__law_at), sl__law_at⟩)
    (c__law_at : PySem.W.codeIn K cd__law_at "_law_at" = true)
    (k__law_at : PySem.W.keepIn K (.ref f__law_at) = true)
    (a__law_value : PySem.W.nsIn K mainGlobals "_law_value" = some (some (.ref f__law_value)))
    (l__law_value : K.lookup f__law_value = some ⟨oc__law_value, od__law_value, .func (PySem.W.fnOf "_law_value" "_law_value" (defArgs s__law_value) (defBody s__law_value) (defScope s__law_value) .none kV__law_value dc__law_value pm__law_value an__law_value cd__law_value ct__law_value), sl__law_value⟩)
    (c__law_value : PySem.W.codeIn K cd__law_value "_law_value" = true)
    (k__law_value : PySem.W.keepIn K (.ref f__law_value) = true)
    (a__law_number : PySem.W.nsIn K mainGlobals "_law_number" = some (some (.ref f__law_number)))
    (l__law_number : K.lookup f__law_number = some ⟨oc__law_number, od__law_number, .func (PySem.W.fnOf "_law_number" "_law_number" (defArgs s__law_number) (defBody s__law_number) (defScope s__law_number) .none kV__law_number dc__law_number pm__law_number an__law_number cd__law_number ct__law_number), sl__law_number⟩)
    (c__law_number : PySem.W.codeIn K cd__law_number "_law_number" = true)
    (k__law_number : PySem.W.keepIn K (.ref f__law_number) = true)
    (a__law_is : PySem.W.nsIn K mainGlobals "_law_is" = some (some (.ref f__law_is)))
    (l__law_is : K.lookup f__law_is = some ⟨oc__law_is, od__law_is, .func (PySem.W.fnOf "_law_is" "_law_is" (defArgs s__law_is) (defBody s__law_is) (defScope s__law_is) .none kV__law_is dc__law_is pm__law_is an__law_is cd__law_is ct__law_is), sl__law_is⟩)
    (c__law_is : PySem.W.codeIn K cd__law_is "_law_is" = true)
    (k__law_is : PySem.W.keepIn K (.ref f__law_is) = true)
    (a__law_none : PySem.W.nsIn K mainGlobals "_law_none" = some (some (.ref f__law_none)))
    (l__law_none : K.lookup f__law_none = some ⟨oc__law_none, od__law_none, .func (PySem.W.fnOf "_law_none" "_law_none" (defArgs s__law_none) (defBody s__law_none) (defScope s__law_none) .none kV__law_none dc__law_none pm__law_none an__law_none cd__law_none ct__law_none), sl__law_none⟩)
    (c__law_none : PySem.W.codeIn K cd__law_none "_law_none" = true)
    (k__law_none : PySem.W.keepIn K (.ref f__law_none) = true)
    (a_law : PySem.W.nsIn K mainGlobals "law" = some (some (.ref f_law)))
    (l_law : K.lookup f_law = some ⟨oc_law, od_law, .func (PySem.W.fnOf "law" "law" (defArgs s_law) (defBody s_law) (defScope s_law) .none kV_law dc_law pm_law an_law cd_law ct_law), sl_law⟩)
    (c_law : PySem.W.codeIn K cd_law "law" = true)
    (k_law : PySem.W.keepIn K (.ref f_law) = true)
    (pg_Sizes : PySem.W.plainGet K C_Sizes Str.empty = true)
    (hd_Sizes : PySem.W.hasDictIn K C_Sizes = true)
    (po_Sizes : PySem.W.plainOver K C_Sizes = true)
    (sa_Sizes : PySem.W.findIn K (.ref C_Sizes) "__setattr__" = some (some (.builtin "object.__setattr__")))
    (mk_Sizes : PySem.W.makesIn K C_Sizes = true)
    (kc_Sizes : PySem.W.keepIn K (.ref C_Sizes) = true)
    (n_Sizes_processors : PySem.W.findIn K (.ref C_Sizes) "processors" = some none)
    (n_Sizes_frames : PySem.W.findIn K (.ref C_Sizes) "frames" = some none)
    (n_Sizes_blocks : PySem.W.findIn K (.ref C_Sizes) "blocks" = some none)
    (n_Sizes__acknowledges : PySem.W.findIn K (.ref C_Sizes) "_acknowledges" = some none)
    (n_Sizes__words : PySem.W.findIn K (.ref C_Sizes) "_words" = some none)
    (n_Sizes__frame_cells : PySem.W.findIn K (.ref C_Sizes) "_frame_cells" = some none)
    (n_Sizes__swap_blocks : PySem.W.findIn K (.ref C_Sizes) "_swap_blocks" = some none)
    (n_Sizes__file_blocks : PySem.W.findIn K (.ref C_Sizes) "_file_blocks" = some none)
    (z_CELLS : PySem.W.nsIn K mainGlobals "CELLS" = some (some (.int 2 t_CELLS)))
    (z_FILES : PySem.W.nsIn K mainGlobals "FILES" = some (some (.int 2 t_FILES)))
    (z_FILE_PAGES : PySem.W.nsIn K mainGlobals "FILE_PAGES" = some (some (.int 4 t_FILE_PAGES)))
    (z_PAGES : PySem.W.nsIn K mainGlobals "PAGES" = some (some (.int 8 t_PAGES)))
    (z_SPACES : PySem.W.nsIn K mainGlobals "SPACES" = some (some (.int 4 t_SPACES)))
    (z_ValueError : PySem.W.nsIn K mainGlobals "ValueError" = some none)
    (z_abs : PySem.W.nsIn K mainGlobals "abs" = some none)
    (z_bool : PySem.W.nsIn K mainGlobals "bool" = some none)
    (z_int : PySem.W.nsIn K mainGlobals "int" = some none)
    (z_isinstance : PySem.W.nsIn K mainGlobals "isinstance" = some none)
    (z_len : PySem.W.nsIn K mainGlobals "len" = some none)
    (z_min : PySem.W.nsIn K mainGlobals "min" = some none)
    (z_range : PySem.W.nsIn K mainGlobals "range" = some none)
    (z_str : PySem.W.nsIn K mainGlobals "str" = some none)
    (z_tuple : PySem.W.nsIn K mainGlobals "tuple" = some none)
    (y_xL : K.lookup C_NotValid = some (excClassObj nmX qX C_NotValid NX bsX [.ref C_PageError, .type "ValueError", .type "Exception", .type "BaseException", .type "object"] true snX subX abX colX ddX x0 x1 x2 x3 x5 "ValueError.__new__"))
    (y_vV : PySem.W.findCls K (.type "ValueError") (.type "type") "__init__" = some (.val (.builtin "ValueError.__init__")))
    (y_xi_NotValid : PySem.W.findIn K (.ref C_NotValid) "__init__" = some (some (.ref f_PageError_init)))
    (y_xt_NotValid : PySem.W.typeIn K (.ref f_PageError_init) = some (.type "function"))
    (y_xs_NotValid : PySem.W.findIn K (.ref C_NotValid) "__setattr__" = some (some (.builtin "object.__setattr__")))
    (y_xb_NotValid : PySem.W.subIn K (.ref C_NotValid) (.type "BaseException") = some true)
    (y_xy_NotValid : PySem.W.typeIn K (.ref C_NotValid) = some (.type "type"))
    (y_xk_NotValid : PySem.W.keepIn K (.ref C_NotValid) = true)
    (y_e1 : PySem.W.findIn K (.ref C_NotValid) "__getattribute__" = some (some (.builtin "BaseException.__getattribute__")))
    (y_e2 : PySem.W.findIn K (.ref C_NotValid) "__getattr__" = some none)
    (y_e4 : PySem.W.hasDictIn K C_NotValid = true)
    (y_e5 : PySem.W.findIn K (.ref C_NotValid) "__class__" = some (some (.builtin "object.__class__")))
    (y_e6 : PySem.W.specialIn K (.builtin "object.__class__") "__get__" = some (some (.builtin "getset_descriptor.__get__")))
    (y_e7 : PySem.W.takesIn K (.builtin "object.__class__") = some true)
    (y_e8 : PySem.W.mroIn K C_NotValid (.type "object") = some true)
    (y_p1 : PySem.W.subIn K (.ref C_PageError) (.type "BaseException") = some true)
    (y_p2 : PySem.W.hasDictIn K C_PageError = true)
    (y_p3 : PySem.W.typeIn K (.ref C_PageError) = some (.type "type"))
    (y_p4 : PySem.W.subIn K (.ref C_NotValid) (.ref C_PageError) = some true)
    (y_q4 : PySem.W.kitOne K (.ref C_NotValid) (.ref C_NotValid) = some true)
    : ∃ fd : FuncData, (∀ (s : Shared) (v : Value), BindsTo s fd ⟨[v], []⟩ [("script", v)]) ∧ ∀ base : Heap, K.In base → base.Ns mainGlobals mg → FnOk l.prog w K mg base CX0 9 fa fd ["script"] (spLaw K) := by
  have e := hfa.symm.trans (PySem.W.mg_of X G a_law)
  cases e
  have T : Txt K mg ⟨C_PageError, C_NotValid, C_Sizes, f_leads_to_frame, f_PageError_init, f_is_whole, f_is_number_below, f_is_tuple_of, f_is_between, f_Sizes_init, f_Sizes_word, f_is_word, f_frame_of, f_block_of, f_is_writable, f_read_only, f__law_tape, f__law_at, f__law_value, f__law_number, f__law_is, f__law_none, fa, PySem.W.fnOf "leads_to_frame" "leads_to_frame" (defArgs s_leads_to_frame) (defBody s_leads_to_frame) (defScope s_leads_to_frame) .none kV_leads_to_frame dc_leads_to_frame pm_leads_to_frame an_leads_to_frame cd_leads_to_frame ct_leads_to_frame, PySem.W.fnOf "__init__" "PageError.__init__" (defArgs s_PageError_init) (defBody s_PageError_init) (defScope s_PageError_init) .none kV_PageError_init dc_PageError_init pm_PageError_init an_PageError_init cd_PageError_init ct_PageError_init, PySem.W.fnOf "is_whole" "is_whole" (defArgs s_is_whole) (defBody s_is_whole) (defScope s_is_whole) .none kV_is_whole dc_is_whole pm_is_whole an_is_whole cd_is_whole ct_is_whole, PySem.W.fnOf "is_number_below" "is_number_below" (defArgs s_is_number_below) (defBody s_is_number_below) (defScope s_is_number_below) .none kV_is_number_below dc_is_number_below pm_is_number_below an_is_number_below cd_is_number_below ct_is_number_below, PySem.W.fnOf "is_tuple_of" "is_tuple_of" (defArgs s_is_tuple_of) (defBody s_is_tuple_of) (defScope s_is_tuple_of) .none kV_is_tuple_of dc_is_tuple_of pm_is_tuple_of an_is_tuple_of cd_is_tuple_of ct_is_tuple_of, PySem.W.fnOf "is_between" "is_between" (defArgs s_is_between) (defBody s_is_between) (defScope s_is_between) .none kV_is_between dc_is_between pm_is_between an_is_between cd_is_between ct_is_between, PySem.W.fnOf "__init__" "Sizes.__init__" (defArgs s_Sizes_init) (defBody s_Sizes_init) (defScope s_Sizes_init) .none kV_Sizes_init dc_Sizes_init pm_Sizes_init an_Sizes_init cd_Sizes_init ct_Sizes_init, PySem.W.fnOf "word" "Sizes.word" (defArgs s_Sizes_word) (defBody s_Sizes_word) (defScope s_Sizes_word) .none kV_Sizes_word dc_Sizes_word pm_Sizes_word an_Sizes_word cd_Sizes_word ct_Sizes_word, PySem.W.fnOf "is_word" "is_word" (defArgs s_is_word) (defBody s_is_word) (defScope s_is_word) .none kV_is_word dc_is_word pm_is_word an_is_word cd_is_word ct_is_word, PySem.W.fnOf "frame_of" "frame_of" (defArgs s_frame_of) (defBody s_frame_of) (defScope s_frame_of) .none kV_frame_of dc_frame_of pm_frame_of an_frame_of cd_frame_of ct_frame_of, PySem.W.fnOf "block_of" "block_of" (defArgs s_block_of) (defBody s_block_of) (defScope s_block_of) .none kV_block_of dc_block_of pm_block_of an_block_of cd_block_of ct_block_of, PySem.W.fnOf "is_writable" "is_writable" (defArgs s_is_writable) (defBody s_is_writable) (defScope s_is_writable) .none kV_is_writable dc_is_writable pm_is_writable an_is_writable cd_is_writable ct_is_writable, PySem.W.fnOf "read_only" "read_only" (defArgs s_read_only) (defBody s_read_only) (defScope s_read_only) .none kV_read_only dc_read_only pm_read_only an_read_only cd_read_only ct_read_only, PySem.W.fnOf "_law_tape" "_law_tape" (defArgs s__law_tape) (defBody s__law_tape) (defScope s__law_tape) .none kV__law_tape dc__law_tape pm__law_tape an__law_tape cd__law_tape ct__law_tape, PySem.W.fnOf "_law_at" "_law_at" (defArgs s__law_at) (defBody s__law_at) (defScope s__law_at) .none kV__law_at dc__law_at pm__law_at an__law_at cd__law_at ct__law_at, PySem.W.fnOf "_law_value" "_law_value" (defArgs s__law_value) (defBody s__law_value) (defScope s__law_value) .none kV__law_value dc__law_value pm__law_value an__law_value cd__law_value ct__law_value, PySem.W.fnOf "_law_number" "_law_number" (defArgs s__law_number) (defBody s__law_number) (defScope s__law_number) .none kV__law_number dc__law_number pm__law_number an__law_number cd__law_number ct__law_number, PySem.W.fnOf "_law_is" "_law_is" (defArgs s__law_is) (defBody s__law_is) (defScope s__law_is) .none kV__law_is dc__law_is pm__law_is an__law_is cd__law_is ct__law_is, PySem.W.fnOf "_law_none" "_law_none" (defArgs s__law_none) (defBody s__law_none) (defScope s__law_none) .none kV__law_none dc__law_none pm__law_none an__law_none cd__law_none ct__law_none, PySem.W.fnOf "law" "law" (defArgs s_law) (defBody s_law) (defScope s_law) .none kV_law dc_law pm_law an_law cd_law ct_law⟩ := {
    m_PageError := PySem.W.mg_of X G g_PageError
    m_NotValid := PySem.W.mg_of X G g_NotValid
    m_Sizes := PySem.W.mg_of X G g_Sizes
    F_leads_to_frame := fun_mk (st := s_leads_to_frame) l_leads_to_frame c_leads_to_frame k_leads_to_frame
    B_leads_to_frame := (fun_mk (st := s_leads_to_frame) l_leads_to_frame c_leads_to_frame k_leads_to_frame).binds (ps := ["word"]) fun _ _ _ _ _ _ us hl => match us, hl with | [_], _ => rfl
    m_leads_to_frame := PySem.W.mg_of X G a_leads_to_frame
    F_PageError_init := fun_mk (st := s_PageError_init) l_PageError_init c_PageError_init k_PageError_init
    B_PageError_init := (fun_mk (st := s_PageError_init) l_PageError_init c_PageError_init k_PageError_init).binds (ps := ["self"]) fun _ _ _ _ _ _ us hl => match us, hl with | [_], _ => rfl
    F_is_whole := fun_mk (st := s_is_whole) l_is_whole c_is_whole k_is_whole
    B_is_whole := (fun_mk (st := s_is_whole) l_is_whole c_is_whole k_is_whole).binds (ps := ["value"]) fun _ _ _ _ _ _ us hl => match us, hl with | [_], _ => rfl
    m_is_whole := PySem.W.mg_of X G a_is_whole
    F_is_number_below := fun_mk (st := s_is_number_below) l_is_number_below c_is_number_below k_is_number_below
    B_is_number_below := (fun_mk (st := s_is_number_below) l_is_number_below c_is_number_below k_is_number_below).binds (ps := ["value", "many"]) fun _ _ _ _ _ _ us hl => match us, hl with | [_, _], _ => rfl
    m_is_number_below := PySem.W.mg_of X G a_is_number_below
    F_is_tuple_of := fun_mk (st := s_is_tuple_of) l_is_tuple_of c_is_tuple_of k_is_tuple_of
    B_is_tuple_of := (fun_mk (st := s_is_tuple_of) l_is_tuple_of c_is_tuple_of k_is_tuple_of).binds (ps := ["value", "many"]) fun _ _ _ _ _ _ us hl => match us, hl with | [_, _], _ => rfl
    m_is_tuple_of := PySem.W.mg_of X G a_is_tuple_of
    F_is_between := fun_mk (st := s_is_between) l_is_between c_is_between k_is_between
    B_is_between := (fun_mk (st := s_is_between) l_is_between c_is_between k_is_between).binds (ps := ["value", "least", "most"]) fun _ _ _ _ _ _ us hl => match us, hl with | [_, _, _], _ => rfl
    m_is_between := PySem.W.mg_of X G a_is_between
    F_Sizes_init := fun_mk (st := s_Sizes_init) l_Sizes_init c_Sizes_init k_Sizes_init
    B_Sizes_init := (fun_mk (st := s_Sizes_init) l_Sizes_init c_Sizes_init k_Sizes_init).binds (ps := ["self", "processors", "frames", "blocks"]) fun _ _ _ _ _ _ us hl => match us, hl with | [_, _, _, _], _ => rfl
    F_Sizes_word := fun_mk (st := s_Sizes_word) l_Sizes_word c_Sizes_word k_Sizes_word
    B_Sizes_word := (fun_mk (st := s_Sizes_word) l_Sizes_word c_Sizes_word k_Sizes_word).binds (ps := ["self", "space", "page"]) fun _ _ _ _ _ _ us hl => match us, hl with | [_, _, _], _ => rfl
    M_Sizes_word := ⟨a_Sizes_word, i_Sizes_word, k_Sizes_word⟩
    F_is_word := fun_mk (st := s_is_word) l_is_word c_is_word k_is_word
    B_is_word := (fun_mk (st := s_is_word) l_is_word c_is_word k_is_word).binds (ps := ["value", "sizes"]) fun _ _ _ _ _ _ us hl => match us, hl with | [_, _], _ => rfl
    m_is_word := PySem.W.mg_of X G a_is_word
    F_frame_of := fun_mk (st := s_frame_of) l_frame_of c_frame_of k_frame_of
    B_frame_of := (fun_mk (st := s_frame_of) l_frame_of c_frame_of k_frame_of).binds (ps := ["word"]) fun _ _ _ _ _ _ us hl => match us, hl with | [_], _ => rfl
    m_frame_of := PySem.W.mg_of X G a_frame_of
    F_block_of := fun_mk (st := s_block_of) l_block_of c_block_of k_block_of
    B_block_of := (fun_mk (st := s_block_of) l_block_of c_block_of k_block_of).binds (ps := ["word"]) fun _ _ _ _ _ _ us hl => match us, hl with | [_], _ => rfl
    m_block_of := PySem.W.mg_of X G a_block_of
    F_is_writable := fun_mk (st := s_is_writable) l_is_writable c_is_writable k_is_writable
    B_is_writable := (fun_mk (st := s_is_writable) l_is_writable c_is_writable k_is_writable).binds (ps := ["word"]) fun _ _ _ _ _ _ us hl => match us, hl with | [_], _ => rfl
    m_is_writable := PySem.W.mg_of X G a_is_writable
    F_read_only := fun_mk (st := s_read_only) l_read_only c_read_only k_read_only
    B_read_only := (fun_mk (st := s_read_only) l_read_only c_read_only k_read_only).binds (ps := ["word"]) fun _ _ _ _ _ _ us hl => match us, hl with | [_], _ => rfl
    m_read_only := PySem.W.mg_of X G a_read_only
    F__law_tape := fun_mk (st := s__law_tape) l__law_tape c__law_tape k__law_tape
    B__law_tape := (fun_mk (st := s__law_tape) l__law_tape c__law_tape k__law_tape).binds (ps := ["script"]) fun _ _ _ _ _ _ us hl => match us, hl with | [_], _ => rfl
    m__law_tape := PySem.W.mg_of X G a__law_tape
    F__law_at := fun_mk (st := s__law_at) l__law_at c__law_at k__law_at
    B__law_at := (fun_mk (st := s__law_at) l__law_at c__law_at k__law_at).binds (ps := ["tape", "k"]) fun _ _ _ _ _ _ us hl => match us, hl with | [_, _], _ => rfl
    m__law_at := PySem.W.mg_of X G a__law_at
    F__law_value := fun_mk (st := s__law_value) l__law_value c__law_value k__law_value
    B__law_value := (fun_mk (st := s__law_value) l__law_value c__law_value k__law_value).binds (ps := ["number", "pick"]) fun _ _ _ _ _ _ us hl => match us, hl with | [_, _], _ => rfl
    m__law_value := PySem.W.mg_of X G a__law_value
    F__law_number := fun_mk (st := s__law_number) l__law_number c__law_number k__law_number
    B__law_number := (fun_mk (st := s__law_number) l__law_number c__law_number k__law_number).binds (ps := ["value", "many"]) fun _ _ _ _ _ _ us hl => match us, hl with | [_, _], _ => rfl
    m__law_number := PySem.W.mg_of X G a__law_number
    F__law_is := fun_mk (st := s__law_is) l__law_is c__law_is k__law_is
    B__law_is := (fun_mk (st := s__law_is) l__law_is c__law_is k__law_is).binds (ps := ["value", "frames", "blocks"]) fun _ _ _ _ _ _ us hl => match us, hl with | [_, _, _], _ => rfl
    m__law_is := PySem.W.mg_of X G a__law_is
    F__law_none := fun_mk (st := s__law_none) l__law_none c__law_none k__law_none
    B__law_none := (fun_mk (st := s__law_none) l__law_none c__law_none k__law_none).binds (ps := ["told", "due"]) fun _ _ _ _ _ _ us hl => match us, hl with | [_, _], _ => rfl
    m__law_none := PySem.W.mg_of X G a__law_none
    F_law := fun_mk (st := s_law) l_law c_law k_law
    B_law := (fun_mk (st := s_law) l_law c_law k_law).binds (ps := ["script"]) fun _ _ _ _ _ _ us hl => match us, hl with | [_], _ => rfl
    m_law := PySem.W.mg_of X G a_law
    c_Sizes := ⟨pg_Sizes, hd_Sizes, po_Sizes, sa_Sizes⟩
    mk_Sizes := ⟨mk_Sizes, a_Sizes_init, i_Sizes_init, kc_Sizes⟩
    n_Sizes_processors := n_Sizes_processors
    n_Sizes_frames := n_Sizes_frames
    n_Sizes_blocks := n_Sizes_blocks
    n_Sizes__acknowledges := n_Sizes__acknowledges
    n_Sizes__words := n_Sizes__words
    n_Sizes__frame_cells := n_Sizes__frame_cells
    n_Sizes__swap_blocks := n_Sizes__swap_blocks
    n_Sizes__file_blocks := n_Sizes__file_blocks
    k_CELLS := ⟨_, PySem.W.mg_of X G z_CELLS, t_CELLS, rfl⟩
    k_FILES := ⟨_, PySem.W.mg_of X G z_FILES, t_FILES, rfl⟩
    k_FILE_PAGES := ⟨_, PySem.W.mg_of X G z_FILE_PAGES, t_FILE_PAGES, rfl⟩
    k_PAGES := ⟨_, PySem.W.mg_of X G z_PAGES, t_PAGES, rfl⟩
    k_SPACES := ⟨_, PySem.W.mg_of X G z_SPACES, t_SPACES, rfl⟩
    b_ValueError := PySem.W.mg_none_of X G z_ValueError
    b_abs := PySem.W.mg_none_of X G z_abs
    b_bool := PySem.W.mg_none_of X G z_bool
    b_int := PySem.W.mg_none_of X G z_int
    b_isinstance := PySem.W.mg_none_of X G z_isinstance
    b_len := PySem.W.mg_none_of X G z_len
    b_min := PySem.W.mg_none_of X G z_min
    b_range := PySem.W.mg_none_of X G z_range
    b_str := PySem.W.mg_none_of X G z_str
    b_tuple := PySem.W.mg_none_of X G z_tuple
    vV := y_vV
    xi_NotValid := y_xi_NotValid
    xt_NotValid := y_xt_NotValid
    xs_NotValid := y_xs_NotValid
    xb_NotValid := y_xb_NotValid
    xy_NotValid := y_xy_NotValid
    xk_NotValid := y_xk_NotValid
    e1 := y_e1
    e2 := y_e2
    e4 := y_e4
    e5 := y_e5
    e6 := y_e6
    e7 := y_e7
    e8 := y_e8
    p1 := y_p1
    p2 := y_p2
    p3 := y_p3
    p4 := y_p4
    q4 := y_q4
    x_NotValid := ⟨⟨nmX, qX, NX, bsX, _, snX, subX, abX, colX, ddX, x0, x1, x2, x3, x5, y_xL, rfl⟩, y_xs_NotValid, y_xb_NotValid, y_xy_NotValid, y_xk_NotValid⟩
    e_NotValid := ⟨y_e1, y_e2, y_xb_NotValid, y_e4, y_e5, y_e6, y_e7, y_e8⟩
  }
  exact ⟨_, fun s v => .of_eq rfl, fun base _ _ => (ok_law (base := base) (P := l.prog) (w := w) T).mono (by decide)⟩
theorem walk {l : PySem.W.OpenLaw} {q : Program} {loose : List Str} {XP : (Str → Option Value) → Heap → Prop} {YP : World → Heap → Prop} {d : DefRec} {K : Params → PySem.W.Frag} (hn : l.most = some 63) (hdf : d.params.defaults = [])
    (hY : ∀ (w : World) (h : Heap), YP w h → (K w.params).In h)
    (F : ∀ (w : World) (mg : Str → Option Value) (fa : Addr) (h : Heap), (K w.params).In h → h.Ns mainGlobals mg → mg d.name = some (.ref fa) →
      ∃ fd : FuncData, (∀ (s : Shared) (u : Value), BindsTo s fd ⟨[u], []⟩ [("script", u)]) ∧ ∀ base : Heap, (K w.params).In base → base.Ns mainGlobals mg → FnOk l.prog w (K w.params) mg base CX0 9 fa fd ["script"] (spLaw (K w.params))) :
    PySem.W.WalkO q loose XP YP l.row.toRowW d [] (fun f vs => PySem.call f vs) :=
  L2.walk_of (n := 63) (k := 9) (x := "script") (CX := fun _ => CX0) (sp := fun w => spLaw (K w.params)) hn (by decide) hdf ⟨rfl, by decide, by decide⟩ hY F (fun _ _ a ns hl _ hS => ⟨a, ns, rfl, hS, hl, fun _ => rfl⟩) fun _ _ _ _ _ z => z
end K06

open PySem PySem.W PyProof.Rows in
set_option maxRecDepth 100000 in
set_option maxHeartbeats 0 in
theorem PySem.Challenge.cw_frametally_k06_table_words_holds : PySem.Challenge.rw_frametally_k06_table_words.Holds := by
  w_on; o_law; k_head; (case hw => w_witness2)
  k_fill
  refine K06.walk (l := PySem.Challenge.rw_frametally_k06_table_words) rfl rfl (fun w h Y => PySem.W.kIn_of Y) ?F
  case F =>
    intro w mg fa h KX G hmg
    refine' K06.all_mk KX G hmg ?g_PageError ?g_NotValid ?g_Sizes ?a_leads_to_frame ?l_leads_to_frame ?c_leads_to_frame ?k_leads_to_frame ?a_PageError_init ?i_PageError_init ?l_PageError_init ?c_PageError_init ?k_PageError_init ?a_is_whole ?l_is_whole ?c_is_whole ?k_is_whole ?a_is_number_below ?l_is_number_below ?c_is_number_below ?k_is_number_below ?a_is_tuple_of ?l_is_tuple_of ?c_is_tuple_of ?k_is_tuple_of ?a_is_between ?l_is_between ?c_is_between ?k_is_between ?a_Sizes_init ?i_Sizes_init ?l_Sizes_init ?c_Sizes_init ?k_Sizes_init ?a_Sizes_word ?i_Sizes_word ?l_Sizes_word ?c_Sizes_word ?k_Sizes_word ?a_is_word ?l_is_word ?c_is_word ?k_is_word ?a_frame_of ?l_frame_of ?c_frame_of ?k_frame_of ?a_block_of ?l_block_of ?c_block_of ?k_block_of ?a_is_writable ?l_is_writable ?c_is_writable ?k_is_writable ?a_read_only ?l_read_only ?c_read_only ?k_read_only ?a__law_tape ?l__law_tape ?c__law_tape ?k__law_tape ?a__law_at ?l__law_at ?c__law_at ?k__law_at ?a__law_value ?l__law_value ?c__law_value ?k__law_value ?a__law_number ?l__law_number ?c__law_number ?k__law_number ?a__law_is ?l__law_is ?c__law_is ?k__law_is ?a__law_none ?l__law_none ?c__law_none ?k__law_none ?a_law ?l_law ?c_law ?k_law ?pg_Sizes ?hd_Sizes ?po_Sizes ?sa_Sizes ?mk_Sizes ?kc_Sizes ?n_Sizes_processors ?n_Sizes_frames ?n_Sizes_blocks ?n_Sizes__acknowledges ?n_Sizes__words ?n_Sizes__frame_cells ?n_Sizes__swap_blocks ?n_Sizes__file_blocks ?z_CELLS ?z_FILES ?z_FILE_PAGES ?z_PAGES ?z_SPACES ?z_ValueError ?z_abs ?z_bool ?z_int ?z_isinstance ?z_len ?z_min ?z_range ?z_str ?z_tuple ?y_xL ?y_vV ?y_xi_NotValid ?y_xt_NotValid ?y_xs_NotValid ?y_xb_NotValid ?y_xy_NotValid ?y_xk_NotValid ?y_e1 ?y_e2 ?y_e4 ?y_e5 ?y_e6 ?y_e7 ?y_e8 ?y_p1 ?y_p2 ?y_p3 ?y_p4 ?y_q4
    (case g_PageError => k_is)
    (case g_NotValid => k_is)
    (case g_Sizes => k_is)
    (case a_leads_to_frame => k_is)
    (case l_leads_to_frame => k_is)
    (case c_leads_to_frame => k_is)
    (case k_leads_to_frame => k_is)
    (case a_PageError_init => k_is)
    (case i_PageError_init => k_is)
    (case l_PageError_init => k_is)
    (case c_PageError_init => k_is)
    (case k_PageError_init => k_is)
    (case a_is_whole => k_is)
    (case l_is_whole => k_is)
    (case c_is_whole => k_is)
    (case k_is_whole => k_is)
    (case a_is_number_below => k_is)
    (case l_is_number_below => k_is)
    (case c_is_number_below => k_is)
    (case k_is_number_below => k_is)
    (case a_is_tuple_of => k_is)
    (case l_is_tuple_of => k_is)
    (case c_is_tuple_of => k_is)
    (case k_is_tuple_of => k_is)
    (case a_is_between => k_is)
    (case l_is_between => k_is)
    (case c_is_between => k_is)
    (case k_is_between => k_is)
    (case a_Sizes_init => k_is)
    (case i_Sizes_init => k_is)
    (case l_Sizes_init => k_is)
    (case c_Sizes_init => k_is)
    (case k_Sizes_init => k_is)
    (case a_Sizes_word => k_is)
    (case i_Sizes_word => k_is)
    (case l_Sizes_word => k_is)
    (case c_Sizes_word => k_is)
    (case k_Sizes_word => k_is)
    (case a_is_word => k_is)
    (case l_is_word => k_is)
    (case c_is_word => k_is)
    (case k_is_word => k_is)
    (case a_frame_of => k_is)
    (case l_frame_of => k_is)
    (case c_frame_of => k_is)
    (case k_frame_of => k_is)
    (case a_block_of => k_is)
    (case l_block_of => k_is)
    (case c_block_of => k_is)
    (case k_block_of => k_is)
    (case a_is_writable => k_is)
    (case l_is_writable => k_is)
    (case c_is_writable => k_is)
    (case k_is_writable => k_is)
    (case a_read_only => k_is)
    (case l_read_only => k_is)
    (case c_read_only => k_is)
    (case k_read_only => k_is)
    (case a__law_tape => k_is)
    (case l__law_tape => k_is)
    (case c__law_tape => k_is)
    (case k__law_tape => k_is)
    (case a__law_at => k_is)
    (case l__law_at => k_is)
    (case c__law_at => k_is)
    (case k__law_at => k_is)
    (case a__law_value => k_is)
    (case l__law_value => k_is)
    (case c__law_value => k_is)
    (case k__law_value => k_is)
    (case a__law_number => k_is)
    (case l__law_number => k_is)
    (case c__law_number => k_is)
    (case k__law_number => k_is)
    (case a__law_is => k_is)
    (case l__law_is => k_is)
    (case c__law_is => k_is)
    (case k__law_is => k_is)
    (case a__law_none => k_is)
    (case l__law_none => k_is)
    (case c__law_none => k_is)
    (case k__law_none => k_is)
    (case a_law => k_is)
    (case l_law => k_is)
    (case c_law => k_is)
    (case k_law => k_is)
    (case pg_Sizes => k_is)
    (case hd_Sizes => k_is)
    (case po_Sizes => k_is)
    (case sa_Sizes => k_is)
    (case mk_Sizes => k_is)
    (case kc_Sizes => k_is)
    (case n_Sizes_processors => k_is)
    (case n_Sizes_frames => k_is)
    (case n_Sizes_blocks => k_is)
    (case n_Sizes__acknowledges => k_is)
    (case n_Sizes__words => k_is)
    (case n_Sizes__frame_cells => k_is)
    (case n_Sizes__swap_blocks => k_is)
    (case n_Sizes__file_blocks => k_is)
    (case z_CELLS => k_is)
    (case z_FILES => k_is)
    (case z_FILE_PAGES => k_is)
    (case z_PAGES => k_is)
    (case z_SPACES => k_is)
    (case z_ValueError => k_is)
    (case z_abs => k_is)
    (case z_bool => k_is)
    (case z_int => k_is)
    (case z_isinstance => k_is)
    (case z_len => k_is)
    (case z_min => k_is)
    (case z_range => k_is)
    (case z_str => k_is)
    (case z_tuple => k_is)
    (case y_xL => k_is)
    (case y_vV => k_is)
    (case y_xi_NotValid => k_is)
    (case y_xt_NotValid => k_is)
    (case y_xs_NotValid => k_is)
    (case y_xb_NotValid => k_is)
    (case y_xy_NotValid => k_is)
    (case y_xk_NotValid => k_is)
    (case y_e1 => k_is)
    (case y_e2 => k_is)
    (case y_e4 => k_is)
    (case y_e5 => k_is)
    (case y_e6 => k_is)
    (case y_e7 => k_is)
    (case y_e8 => k_is)
    (case y_p1 => k_is)
    (case y_p2 => k_is)
    (case y_p3 => k_is)
    (case y_p4 => k_is)
    (case y_q4 => first | rfl | k_is)
