import PyProof.Rows.All
import Wide.All
import OpenK.AllK
import Wide.FinOn
import KE.GoesMore
import HandS.ForMost
import HandS.Walk
import HandS.Zip
import HandS.TupAny
import HandS.IsInst
import HandS.Deep
import HandS.Conv
import HandS.Style
import HandS.Flow
import HandS.Wide
import KE.KUnpackStar
import HandS.StrMore
import HandS.Text
import PyProof.StrLawsChain
import PyProof.StrLawsFrom
import PyProof.StrLawsFirst
import HandS.Codes
import PySem.Challenge.RW_sheafbooks_k40_marks_in_texts
set_option Elab.async false
set_option linter.all false
set_option maxRecDepth 100000
set_option maxHeartbeats 4000000
namespace Sg
open PySem PySem.Spec PyProof.Rows L2
/-! ### heaps -/
theorem same_upd {H : Hp} {p : Addr} {o : HO} (h : H p = none) : Same H (upd H p o) := fun b x e => by
  rw [upd_ne (ne_of_none e h)]
  exact e
/-- all but what stands at t is as it was -/
def Ex (t : Addr) (H H' : Hp) : Prop := ∀ a o, a ≠ t → H a = some o → H' a = some o
theorem Ex.refl (t : Addr) (H : Hp) : Ex t H H := fun _ _ _ h => h
theorem Ex.trans {t : Addr} {H H1 H2 : Hp} (a : Ex t H H1) (b : Ex t H1 H2) : Ex t H H2 := fun c o n h => b c o n (a c o n h)
theorem Same.ex {t : Addr} {H H' : Hp} (s : Same H H') : Ex t H H' := fun c o _ h => s c o h
theorem Ex.upd {t : Addr} {H H' : Hp} {o : HO} (s : Ex t H H') : Ex t H (upd H' t o) := fun c u n h => by
  rw [upd_ne n]
  exact s c u n h
theorem Ex.free {t : Addr} {H H' : Hp} (s : Ex t H H') {l : Addr} (hn : l ≠ t) (h : H' l = none) : H l = none := by
  cases q : H l with
  | none => rfl
  | some o =>
    rw [s l o hn q] at h
    cases h
/-- tuples stay -/
def KeepT (H H' : Hp) : Prop := ∀ a xs, H a = some (.tup xs) → H' a = some (.tup xs)
theorem Same.keepT {H H' : Hp} (s : Same H H') : KeepT H H' := fun a xs h => s a _ h
theorem KeepT.refl (H : Hp) : KeepT H H := fun _ _ h => h
theorem KeepT.trans {H H1 H2 : Hp} (a : KeepT H H1) (b : KeepT H1 H2) : KeepT H H2 := fun c o h => b c o (a c o h)
theorem Ex.keepT {t : Addr} {H H' : Hp} {ys : List V} (s : Ex t H H') (ht : H t = some (.lst ys)) : KeepT H H' := fun a xs h => by
  by_cases e : a = t
  · subst e
    rw [ht] at h
    cases h
  · exact s a _ e h
theorem keepT_lst {H : Hp} {l : Addr} {xs ys : List V} (h : H l = some (.lst xs)) : KeepT H (upd H l (.lst ys)) := fun a zs e => by
  rw [upd_ne (fun q => by subst q; rw [h] at e; cases e)]
  exact e
/-! ### data: tuples and lists of data -/
mutual
inductive Rp (H : Hp) : V → PyData → Prop
  | non : Rp H .non .none
  | bl (b : Bool) : Rp H (.bl b) (.bool b)
  | int (i : Int) : Rp H (.int i) (.int i)
  | str (x : Str) : Rp H (.str x) (.str x)
  | lst {a : Addr} {xs : List V} {ds : List PyData} : H a = some (.lst xs) → RpAll H xs ds → Rp H (.ref a) (.list ds)
  | tup {a : Addr} {xs : List V} {ds : List PyData} : H a = some (.tup xs) → RpAll H xs ds → Rp H (.ref a) (.tuple ds)
inductive RpAll (H : Hp) : List V → List PyData → Prop
  | nil : RpAll H [] []
  | cons {v : V} {vs : List V} {d : PyData} {ds : List PyData} : Rp H v d → RpAll H vs ds → RpAll H (v :: vs) (d :: ds)
end
mutual
theorem Rp.same {H H' : Hp} (s : Same H H') : ∀ {v : V} {d : PyData}, Rp H v d → Rp H' v d
  | _, _, .non => .non
  | _, _, .bl b => .bl b
  | _, _, .int i => .int i
  | _, _, .str x => .str x
  | _, _, .lst h hs => .lst (s _ _ h) (RpAll.same s hs)
  | _, _, .tup h hs => .tup (s _ _ h) (RpAll.same s hs)
theorem RpAll.same {H H' : Hp} (s : Same H H') : ∀ {vs : List V} {ds : List PyData}, RpAll H vs ds → RpAll H' vs ds
  | _, _, .nil => .nil
  | _, _, .cons h hs => .cons (Rp.same s h) (RpAll.same s hs)
end
mutual
theorem Rp.dp {K : PySem.W.Frag} {H : Hp} : ∀ {v : V} {d : PyData}, Rp H v d → Dp K H v d
  | _, _, .non => .non
  | _, _, .bl b => .bl b
  | _, _, .int i => .int i
  | _, _, .str x => .str x
  | _, _, .lst h hs => .lst (.inl (.inl h)) (RpAll.dp hs)
  | _, _, .tup h hs => .tup (.inl (.inl h)) (RpAll.dp hs)
theorem RpAll.dp {K : PySem.W.Frag} {H : Hp} : ∀ {vs : List V} {ds : List PyData}, RpAll H vs ds → DpAll K H vs ds
  | _, _, .nil => .nil
  | _, _, .cons h hs => .cons (Rp.dp h) (RpAll.dp hs)
end
/-! no list in it: it stays whatever lists become -/
mutual
def imm : PyData → Bool
  | .list _ => false
  | .tuple ds => immAll ds
  | _ => true
def immAll : List PyData → Bool
  | [] => true
  | d :: ds => imm d && immAll ds
end
mutual
theorem Rp.keep {H H' : Hp} (s : KeepT H H') : ∀ {v : V} {d : PyData}, Rp H v d → imm d = true → Rp H' v d
  | _, _, .non, _ => .non
  | _, _, .bl b, _ => .bl b
  | _, _, .int i, _ => .int i
  | _, _, .str x, _ => .str x
  | _, _, .lst h hs, e => by simp [imm] at e
  | _, _, .tup h hs, e => .tup (s _ _ h) (RpAll.keep s hs (by simpa [imm] using e))
theorem RpAll.keep {H H' : Hp} (s : KeepT H H') : ∀ {vs : List V} {ds : List PyData}, RpAll H vs ds → immAll ds = true → RpAll H' vs ds
  | _, _, .nil, _ => .nil
  | _, _, .cons h hs, e => by
    simp only [immAll, Bool.and_eq_true] at e
    exact .cons (Rp.keep s h e.1) (RpAll.keep s hs e.2)
end
theorem RpAll.length {H : Hp} : ∀ {vs : List V} {ds : List PyData}, RpAll H vs ds → vs.length = ds.length
  | _, _, .nil => rfl
  | _, _, .cons _ hs => by rw [List.length_cons, List.length_cons, RpAll.length hs]
theorem RpAll.get {H : Hp} : ∀ {vs : List V} {ds : List PyData} {i : Nat} {v : V}, RpAll H vs ds → vs[i]? = some v → ∃ d, ds[i]? = some d ∧ Rp H v d
  | _, _, _, _, .nil, e => by simp at e
  | _, _, 0, _, .cons h _, e => by simp at e; subst e; exact ⟨_, rfl, h⟩
  | _, _, i + 1, _, .cons _ hs, e => by
    rw [List.getElem?_cons_succ] at e
    rw [List.getElem?_cons_succ]
    exact RpAll.get hs e
theorem RpAll.getD {H : Hp} : ∀ {vs : List V} {ds : List PyData} {i : Nat} {d : PyData}, RpAll H vs ds → ds[i]? = some d → ∃ v, vs[i]? = some v ∧ Rp H v d
  | _, _, _, _, .nil, e => by simp at e
  | _, _, 0, _, .cons h _, e => by simp at e; subst e; exact ⟨_, rfl, h⟩
  | _, _, i + 1, _, .cons _ hs, e => by
    rw [List.getElem?_cons_succ] at e
    rw [List.getElem?_cons_succ]
    exact RpAll.getD hs e
theorem RpAll.append {H : Hp} : ∀ {vs ws : List V} {ds es : List PyData}, RpAll H vs ds → RpAll H ws es → RpAll H (vs ++ ws) (ds ++ es)
  | _, _, _, _, .nil, h => h
  | _, _, _, _, .cons h hs, h2 => .cons h (RpAll.append hs h2)
theorem RpAll.take {H : Hp} : ∀ {vs : List V} {ds : List PyData} (n : Nat), RpAll H vs ds → RpAll H (vs.take n) (ds.take n)
  | _, _, 0, _ => by rw [List.take_zero, List.take_zero]; exact .nil
  | _, _, n + 1, .nil => .nil
  | _, _, n + 1, .cons h hs => .cons h (RpAll.take n hs)
theorem RpAll.drop {H : Hp} : ∀ {vs : List V} {ds : List PyData} (n : Nat), RpAll H vs ds → RpAll H (vs.drop n) (ds.drop n)
  | _, _, 0, h => h
  | _, _, n + 1, .nil => .nil
  | _, _, n + 1, .cons h hs => RpAll.drop n hs
theorem RpAll.strs {H : Hp} : ∀ (ws : List Str), RpAll H (ws.map V.str) (ws.map PyData.str)
  | [] => .nil
  | w :: ws => .cons (.str w) (RpAll.strs ws)
theorem RpAll.strs_eq {H : Hp} : ∀ {vs : List V} {ws : List Str}, RpAll H vs (ws.map PyData.str) → vs = ws.map V.str
  | _, [], .nil => rfl
  | _, w :: ws, .cons h hs => by
    cases h
    rw [List.map_cons, RpAll.strs_eq hs]
theorem immAll_strs : ∀ ws : List Str, immAll (ws.map PyData.str) = true
  | [] => rfl
  | w :: ws => by
    rw [List.map_cons]
    show (imm (PyData.str w) && immAll (ws.map PyData.str)) = true
    rw [immAll_strs ws]
    rfl
theorem immAll_map {α : Type} {f : α → PyData} (hf : ∀ x, imm (f x) = true) : ∀ xs : List α, immAll (xs.map f) = true
  | [] => rfl
  | x :: xs => by
    rw [List.map_cons]
    show (imm (f x) && immAll (xs.map f)) = true
    rw [hf x, immAll_map hf xs]
    rfl
/-! the text's words -/
def dW (ws : List Str) : PyData := .tuple (ws.map .str)
def dC (c : List (List Str)) : PyData := .tuple (c.map dW)
def dF (fs : List (Str × List Str)) : PyData := .tuple (fs.map fun p => .tuple [.str p.1, dW p.2])
theorem imm_dW (ws : List Str) : imm (dW ws) = true := immAll_strs ws
theorem imm_dC (c : List (List Str)) : imm (dC c) = true := immAll_map imm_dW c
theorem imm_dP (p : Str × List Str) : imm (.tuple [.str p.1, dW p.2]) = true := by
  show (imm (.str p.1) && (imm (dW p.2) && immAll [])) = true
  rw [imm_dW]
  rfl
theorem imm_dF (fs : List (Str × List Str)) : imm (dF fs) = true := immAll_map imm_dP fs
theorem Rp.dW_inv {H : Hp} {v : V} {ws : List Str} (h : Rp H v (dW ws)) : ∃ a, v = .ref a ∧ H a = some (.tup (ws.map V.str)) := by
  unfold dW at h
  cases h with
  | tup ha hs => exact ⟨_, rfl, by rw [ha, RpAll.strs_eq hs]⟩
theorem Rp.dW_mk {H : Hp} {a : Addr} {ws : List Str} (h : H a = some (.tup (ws.map V.str))) : Rp H (.ref a) (dW ws) := .tup h (RpAll.strs ws)
/-! ### rules of our own -/
section
variable {X : Cx} {CX : CXT} {k : Nat} {f : Addr} {fd : FuncData} {ps ks : List Str} {sp : Sp} {E : XK} {x : Str} {p pos : Pos} {kws : List Keyword} {tk : TA} {g : List Value → List Value → List Value} {gV : List V → List V → List V}
/-- f(k = e, ..) without places -/
theorem pe_callK0 (F : FnOk X.prog X.w X.K X.mg X.base CX k f fd ps sp) (hr : Room k X.A) (hg : Gl X x) (hm : X.mg x = some (.ref f)) (hk : PySem.W.keepIn X.K (.ref f) = true) (hb : KBinds X.K fd ps ks g gV) (hx : Passes CX X E) (hkw : PK X kws tk)
    (hall : (backToKw pos (keywordEach kws X.env)).all (·.1.isSome) = true := by rfl) (hks : (backToKw pos (keywordEach kws X.env)).filterMap (·.1) = ks := by rfl) (hdb : (x == ("__debug__" : Str)) = false := by decide)
    (hpl : ((backTo pos (starEach [] X.env)).any (·.1) || (backToKw pos (keywordEach kws X.env)).any (·.1.isNone)) = false := by rfl) :
    PE X (.Call (.Name x p) [] kws pos) (tCallK sp gV E tNil tk) := by
  refine ⟨fun pins s σ H Q I h => ?_⟩
  refine wpAny_Call_Name_kw (ld_glob I hg hm ?_ hdb)
  refine PySem.W.callWith_KW0 (h₀ := X.base) I.ok.mod.kin hk hall ?_ hpl
  refine thn (hkw.run pos pins s σ H _ I h) fun ws s2 ⟨zs, H2, I2, rz, q2⟩ => ⟨I2.kIn, ?_⟩
  rw [hks]
  exact run_fnk (us := []) (vs := []) F hr hb hx I2 .nil rz q2
end
section
variable {X : Cx}
/-- x in t: t a tuple of data -/
def rInTD (K : PySem.W.Frag) : R2 := fun x y H Q => ∃ d ds, Dp K H x d ∧ Dp K H y (.tuple ds) ∧ SeqAt.shaped d = true ∧ SeqAt.shaped (.tuple ds) = true ∧ Q (.bl (ds.any fun z => PyData.eqv z d)) H
theorem op_inTD (hu : X.A.units + 65 < cLine) : OpR X (compareOp .In) (rInTD X.K) := by
  intro pins s σ H x y v u Q I rx ry h
  obtain ⟨d, ds, hd, he, sd, se, q⟩ := h
  obtain ⟨as, r1⟩ := Dp.reads I d x v hd rx
  obtain ⟨bs, r2⟩ := Dp.reads I (.tuple ds) y u he ry
  exact SeqAt.in_tuple_reads r2 r1 (SeqAt.canLay_of_shaped se) (SeqAt.canLay_of_shaped sd) (room_in_shaped sd hu) ⟨.bl _, H, I, rfl, q⟩
/-- a text, none or one time -/
def rRepS : R2 := fun x y H Q => ∃ (z : Str) (n : Int), x = .str z ∧ y = .int n ∧ (n = 0 ∨ n = 1) ∧ Q (.str (if n = 0 then Str.empty else z)) H
theorem op_repS : OpR X (binaryOp .Mult) rRepS := by
  intro pins s σ H x y v u Q I rx ry h
  obtain ⟨z, n, rfl, rfl, hn, q⟩ := h
  obtain ⟨t, rfl⟩ := rx
  obtain ⟨t2, rfl⟩ := ry
  rcases hn with rfl | rfl
  · rw [if_pos rfl] at q
    exact PySem.P.mul_str_none (by decide) (by decide) ⟨.str Str.empty, H, I.kept (fun _ _ h => h), ⟨_, rfl⟩, q⟩
  · rw [if_neg (by decide)] at q
    refine PySem.P.mul_str (by decide) (fun _ h => by simp at h) (fun _ h => by simp at h) ?_
    rw [if_neg (by decide), if_pos (by simp)]
    exact ⟨.str z, H, I, ⟨_, rfl⟩, q⟩
theorem rep_len (z : Str) (n : Int) : (if n = 0 then Str.empty else z).length ≤ z.length := by
  split
  · exact Nat.zero_le _
  · exact Nat.le_refl _
end
/-! ### texts of small letters -/
def Low (x : Str) : Prop := ∀ c ∈ x.cps.toList, 97 ≤ c ∧ c ≤ 122
def Wd (x : Str) : Prop := x.length ≤ 16 ∧ Low x
theorem Low.append {x y : Str} (hx : Low x) (hy : Low y) : Low (x ++ y) := fun c hc => by
  have e : (x ++ y).cps.toList = x.cps.toList ++ y.cps.toList := TL.tl_append x y
  rw [e] at hc
  rcases List.mem_append.mp hc with h | h
  · exact hx c h
  · exact hy c h
theorem Low.empty : Low Str.empty := fun c hc => by
  have e : Str.empty.cps.toList = [] := rfl
  rw [e] at hc
  cases hc
theorem Low.cut {z : Str} (h : Low z) (lo hi : Option Int) : Low (cutS z lo hi) := fun c hc => by
  have e : (cutS z lo hi).cps.toList = (z.cps.toList.drop (HT.sIx z.length 0 lo)).take (HT.sIx z.length z.length hi - HT.sIx z.length 0 lo) := rfl
  rw [e] at hc
  exact h c (List.mem_of_mem_drop (List.mem_of_mem_take hc))
theorem Low.rep {z : Str} (h : Low z) (n : Int) : Low (if n = 0 then Str.empty else z) := by
  split
  · exact Low.empty
  · exact h
theorem Low.join : ∀ cs : List Str, (∀ x ∈ cs, Low x) → Low (Str.join (Str.ofString "") cs)
  | [], _ => Low.empty
  | [x], h => h x (List.mem_singleton.mpr rfl)
  | x :: y :: r, h => by
    show Low (x ++ Str.ofString "" ++ Str.join (Str.ofString "") (y :: r))
    refine ((h x (List.mem_cons_self ..)).append ?_).append (Low.join (y :: r) fun z hz => h z (List.mem_cons_of_mem _ hz))
    intro c hc
    rw [show (Str.ofString "").cps.toList = [] by decide +kernel] at hc
    cases hc
theorem Low.ok {x : Str} (h : Low x) : PyData.strOk x = true := by
  unfold PyData.strOk
  rw [← Array.all_toList, List.all_eq_true]
  intro c hc
  exact decide_eq_true (by have := h c hc; omega)
/-! ### shapes: what may be compared -/
theorem canLayAll_map {α : Type} {f : α → PyData} {xs : List α} (hf : ∀ x ∈ xs, (f x).canLay0 = true) : PyData.canLayAll0 (xs.map f) = true := by
  induction xs with
  | nil => rfl
  | cons x r ih =>
    rw [List.map_cons]
    show ((f x).canLay0 && PyData.canLayAll0 (r.map f)) = true
    rw [hf x (List.mem_cons_self ..), ih fun y hy => hf y (List.mem_cons_of_mem _ hy)]
    rfl
theorem depthAll_map {α : Type} {f : α → PyData} {k : Nat} {xs : List α} (hf : ∀ x ∈ xs, (f x).depth ≤ k) : PyData.depthAll (xs.map f) ≤ k := by
  induction xs with
  | nil => exact Nat.zero_le _
  | cons x r ih =>
    rw [List.map_cons]
    show max (f x).depth (PyData.depthAll (r.map f)) ≤ k
    exact Nat.max_le.mpr ⟨hf x (List.mem_cons_self ..), ih fun y hy => hf y (List.mem_cons_of_mem _ hy)⟩
theorem shaped_of {d : PyData} (h : d.canLay0 = true) (hd : d.depth ≤ 64) : SeqAt.shaped d = true := by
  unfold SeqAt.shaped
  rw [h, decide_eq_true hd]
  rfl
theorem lay_dW {ws : List Str} (h : ∀ x ∈ ws, Wd x) : (dW ws).canLay0 = true := canLayAll_map fun x hx => (h x hx).2.ok
theorem dep_dW (ws : List Str) : (dW ws).depth ≤ 1 := Nat.succ_le_succ (depthAll_map (k := 0) fun _ _ => Nat.le_refl _)
theorem lay_dC {c : List (List Str)} (h : ∀ ws ∈ c, ∀ x ∈ ws, Wd x) : (dC c).canLay0 = true := canLayAll_map fun ws hw => lay_dW (h ws hw)
theorem dep_dC (c : List (List Str)) : (dC c).depth ≤ 2 := Nat.succ_le_succ (depthAll_map (k := 1) fun ws _ => dep_dW ws)
abbrev dP (p : Str × List Str) : PyData := .tuple [.str p.1, dW p.2]
theorem lay_dP {p : Str × List Str} (h1 : Wd p.1) (h : ∀ x ∈ p.2, Wd x) : (dP p).canLay0 = true := by
  show (PyData.strOk p.1 && ((dW p.2).canLay0 && true)) = true
  rw [h1.2.ok, lay_dW h]
  rfl
theorem dep_dP (p : Str × List Str) : (dP p).depth ≤ 2 := by
  show max 0 (max (dW p.2).depth 0) + 1 ≤ 2
  have := dep_dW p.2
  omega
theorem eqv_nil_l (ds : List PyData) : PyData.eqv (.list ds) (.list []) = ds.isEmpty := by
  cases ds <;> rfl
theorem eqv_nil_t (ds : List PyData) : PyData.eqv (.tuple ds) (.tuple []) = ds.isEmpty := by
  cases ds <;> rfl
end Sg

namespace Sg
open PySem PySem.Spec PySem.Calls PyProof.Rows L2
/-! ### a, *b = a list -/
theorem star_un {prog : Program} {w : World} {A : Around} {E : Value → Shared → Prop} {s : Shared} {l : Addr} {items : Array Value} {Q : List Value → Shared → Prop} (hl : s.heap.IsList l items) (hh : A.handled = none) (h1 : 1 ≤ items.size) (hz : items.size ≤ 16384)
    (h : ∀ (h' : Heap) (tk : Nat), (∀ b o, s.heap.get? b = some o → h'.get? b = some o) → Q (items.toList.take 1 ++ [.ref h'.objs.size]) { s with heap := h'.push { cls := .type "list", data := .seq (items.toList.drop 1).toArray }, toks := tk }) : wpAny (model prog w) A (unpackItems (.ref l) 2 (some 1)) Q E s := by
  have hlt : l ≠ s.heap.objs.size := by obtain ⟨o, ho, _⟩ := hl; exact Nat.ne_of_lt (Heap.lt_size ho)
  unfold unpackItems
  refine wpAny_bind ?_
  unfold notIterableAtAll
  refine wpAny_bind (wpAny_specialOf hl.typeIs slot_list_iter.lookup ?_)
  refine wpAny_pure ?_
  simp only [Bool.false_eq_true, if_false]
  refine wpAny_bind (wpAny_holding (wpAny_pyIter_list hl ?_))
  refine wpAny_bind (wpAny_holding (PySem.W.kun_draw hlt 1 0 _ _ ⟨_, Heap.get?_push_size _ rfl, rfl, rfl⟩ (hl.push _) (by omega) fun h₁ hit₁ hs₁ => ?_))
  have hl₁ : h₁.IsList l items := (hl.push _).extBut hs₁.extBut hlt
  rw [Nat.zero_add] at hit₁
  have hit₁' := hit₁
  obtain ⟨oi, hoi, _⟩ := hit₁'
  have hl₁' := hl₁
  obtain ⟨ol, hol, _⟩ := hl₁'
  rw [List.drop_zero]
  have hfl : (items.toList.take 1).length = 1 := by rw [List.length_take, Array.length_toList]; omega
  rw [if_neg (show ¬ ((items.toList.take 1).length < 1) by rw [hfl]; omega)]
  refine wpAny_bind (wpAny_holding (PySem.W.kun_collect (s := { s with heap := h₁ }) (T := "list_iterator") (.inr (.inr (.inl rfl))) (Walks.list (A := A.in1) hh s.heap.objs.size l hlt items) (fun j u st => st.1.typeIs) (k := 1) (by omega) ⟨hit₁, hl₁⟩ (Heap.lt_size hoi) (Heap.lt_size hol) (fun h₂ tk hk => ?_) (by rw [sizeLine_eq]; omega)))
  have hrl : (items.toList.drop 1).length = items.size - 1 := by rw [List.length_drop, Array.length_toList]
  show wpAny _ _ (if (items.toList.drop 1).length < 2 - 1 - 1 then _ else _) _ _ _
  rw [if_neg (by rw [hrl]; omega)]
  show wpAny _ _ (newList ((items.toList.drop 1).take ((items.toList.drop 1).length - (2 - 1 - 1))) >>= fun d => pure (items.toList.take 1 ++ [d] ++ (items.toList.drop 1).drop ((items.toList.drop 1).length - (2 - 1 - 1)))) _ _ _
  rw [show (items.toList.drop 1).length - (2 - 1 - 1) = (items.toList.drop 1).length by omega, List.take_length, List.drop_length]
  refine wpAny_bind (wpAny_newList (wpAny_pure ?_) (by rw [hrl, sizeLine_eq]; omega))
  rw [List.append_nil]
  refine h h₂ tk fun b o e => ?_
  have hb : b ≠ s.heap.objs.size := Nat.ne_of_lt (Heap.lt_size e)
  exact hk b o hb (hs₁.extBut b o hb (Heap.get?_push_of_some _ e))
def gStar (K : PySem.W.Frag) (t : TGs) : TG := fun v σ H Q => ∃ (a : Addr) (x : V) (xs : List V), v = .ref a ∧ SqL K H a (x :: xs) ∧ xs.length + 1 ≤ 16384 ∧ ∀ p, H p = none → t [x, .ref p] σ (upd H p (.lst xs)) Q
theorem pg_star {X : Cx} {e1 e2 : Expr} {k : Nat} {pos p2 : Pos} {t : TGs} (hc : X.calm = true) (h : PGs X [e1, e2] t) (hn : (assignEach [e1, .Starred e2 p2] X.env).length = 2 := by rfl) (hst : (assignEach [e1, .Starred e2 p2] X.env).findIdx? (·.1) = some 1 := by rfl)
    (he : (assignEach [e1, .Starred e2 p2] X.env).map (·.2) = (assignEach [e1, e2] X.env).map (·.2) := by rfl) : PG X (.Tuple [e1, .Starred e2 p2] k pos) (gStar X.K t) := by
  refine ⟨fun pins s σ H v u Q I r hw => ?_⟩
  obtain ⟨a, x, xs, e, hq, hl, hw⟩ := hw
  subst e
  cases r
  obtain ⟨its, rv, ht, hz⟩ := I.list hq
  cases rv with
  | cons r1 rs =>
    rename_i u1 us
    rw [assign_Tuple]
    refine wpAny_bind (wpAny_standAt ?_)
    unfold unpack
    rw [hn, hst]
    have hsz : (List.toArray (u1 :: us)).size = xs.length + 1 := by rw [List.size_toArray, List.length_cons, rs.length]
    refine wpAny_bind (wpAny_holding (star_un ht.isList (I.ok.hd hc) (by omega) (by omega) fun h' tk hk => ?_))
    rw [he]
    have I2 : Inv X pins σ H { s with heap := h', toks := tk } := I.kept hk
    have hf : H h'.objs.size = none := I2.hok.fresh (Nat.le_refl _)
    have I3 : Inv X pins σ (upd H h'.objs.size (.lst xs)) { s with heap := h'.push { cls := .type "list", data := .seq us.toArray }, toks := tk } := by
      refine I2.laid (t' := tk) (fun b u e => Heap.get?_push_of_some _ e) (Nat.le_refl _) ?_
      refine ⟨?_, us, 0, rs, Heap.get?_push_size _ rfl⟩
      exact Nat.le_trans (by omega : xs.length ≤ 16384) (by decide)
    exact h.run pins _ σ _ [x, .ref h'.objs.size] [u1, .ref h'.objs.size] Q I3 (.cons r1 (.cons rfl .nil)) (hw _ hf)
end Sg

namespace Sg
open PySem PySem.Spec PyProof.Rows L2 PySem.Builtin PySem.Builtin.Str
abbrev cp (x : Str) : List Nat := x.cps.toList
theorem cp_len (x : Str) : (cp x).length = x.length := by simp [cp, Str.length]
theorem cp_ext {a b : Str} (h : cp a = cp b) : a = b := by
  cases a
  cases b
  have := Array.toList_inj.mp h
  simp at this
  rw [this]
theorem cp_sub (x : Str) (i j : Nat) : cp (strSub x i j) = ((cp x).drop i).take (j - i) := by
  show (x.cps.extract i j).toList = _
  rw [Array.toList_extract]
/-! ### places of a sign -/
def ixs (L : List Nat) (c a k : Nat) : List Nat := (List.range' a k).filter fun i => decide (L[i]? = some c)
theorem ixs_succ (L : List Nat) (c a k : Nat) : ixs L c a (k + 1) = (if L[a]? = some c then [a] else []) ++ ixs L c (a + 1) k := by
  unfold ixs
  rw [List.range'_succ, List.filter_cons]
  by_cases h : L[a]? = some c <;> simp [h]
theorem occ_fold (x : Str) (c limit : Nat) : ∀ (k a : Nat) (acc : Array Nat) (free : Nat), free ≤ a → (forIn (List.range' a k) (acc, free) (StrLaws.occBody x ⟨#[c]⟩ x.length limit)).run.fst.toList = acc.toList ++ (ixs (cp x) c a k).take (limit - acc.size)
  | 0, a, acc, free, _ => by simp [ixs]
  | k + 1, a, acc, free, hf => by
    rw [List.range'_succ, List.forIn_cons]
    unfold StrLaws.occBody
    rw [ixs_succ]
    by_cases hc : ((acc.size < limit ∧ free ≤ a) ∧ a + (⟨#[c]⟩ : Str).length ≤ x.length) ∧ subAt x ⟨#[c]⟩ a = true
    · rw [if_pos hc]
      have hx : (cp x)[a]? = some c := (StrLaws.subAt_one x c a).mp ⟨hc.1.2, hc.2⟩
      refine (occ_fold x c limit k (a + 1) (acc.push a) (a + 1) (Nat.le_refl _)).trans ?_
      rw [if_pos hx, Array.toList_push, Array.size_push]
      have : limit - acc.size = (limit - (acc.size + 1)) + 1 := by have := hc.1.1.1; omega
      rw [this]
      simp
    · rw [if_neg hc]
      refine (occ_fold x c limit k (a + 1) acc free (by omega)).trans ?_
      by_cases hx : (cp x)[a]? = some c
      · have := (StrLaws.subAt_one x c a).mpr hx
        have hl : ¬ acc.size < limit := fun h => hc ⟨⟨⟨h, hf⟩, this.1⟩, this.2⟩
        have : limit - acc.size = 0 := by omega
        rw [this]
        simp
      · rw [if_neg hx, List.nil_append]
theorem ixs_len (L : List Nat) (c a k : Nat) : (ixs L c a k).length ≤ k := by
  unfold ixs
  have := List.length_filter_le (fun i => decide (L[i]? = some c)) (List.range' a k)
  rw [List.length_range'] at this
  exact this
theorem occ_all (x : Str) (c : Nat) : occurrences x ⟨#[c]⟩ 0 x.length (x.length + 1) = ixs (cp x) c 0 (x.length + 1) := by
  rw [StrLaws.occ_eq]
  refine (occ_fold x c (x.length + 1) _ 0 #[] 0 (Nat.le_refl _)).trans ?_
  have := ixs_len (cp x) c 0 (x.length + 1)
  simp only [Nat.sub_zero]
  rw [List.take_of_length_le (by simpa using this)]
  simp
/-! ### parted at a sign -/
def spl (c : Nat) : List Nat → List Nat × List (List Nat)
  | [] => ([], [])
  | d :: r => if d = c then ([], (spl c r).1 :: (spl c r).2) else (d :: (spl c r).1, (spl c r).2)
theorem parts_split (x : Str) (c : Nat) : ∀ (k b a : Nat), a ≤ b → b + k = x.length + 1 → 1 ≤ k → (StrLaws.partsFrom x 1 a (ixs (cp x) c b k)).map cp = (((cp x).drop a).take (b - a) ++ (spl c ((cp x).drop b)).1) :: (spl c ((cp x).drop b)).2
  | 0, _, _, _, _, h => absurd h (by decide)
  | 1, b, a, hab, hk, _ => by
    have hb : b = x.length := by omega
    have hd : (cp x).drop b = [] := List.drop_eq_nil_of_le (by rw [cp_len]; omega)
    have hn : (cp x)[b]? = none := List.getElem?_eq_none (by rw [cp_len]; omega)
    rw [hd, ixs_succ, if_neg (by rw [hn]; simp)]
    show [cp (strSub x a x.length)] = _
    rw [cp_sub, ← hb]
    simp [spl]
  | k + 2, b, a, hab, hk, _ => by
    have hb : b < (cp x).length := by rw [cp_len]; omega
    have hd : (cp x).drop b = (cp x)[b] :: (cp x).drop (b + 1) := List.drop_eq_getElem_cons hb
    rw [hd, ixs_succ]
    by_cases h : (cp x)[b] = c
    · rw [if_pos (by rw [List.getElem?_eq_getElem hb, h])]
      show cp (strSub x a b) :: (StrLaws.partsFrom x 1 (b + 1) (ixs (cp x) c (b + 1) (k + 1))).map cp = _
      have es : spl c ((cp x)[b] :: (cp x).drop (b + 1)) = ([], (spl c ((cp x).drop (b + 1))).1 :: (spl c ((cp x).drop (b + 1))).2) := if_pos h
      rw [parts_split x c (k + 1) (b + 1) (b + 1) (Nat.le_refl _) (by omega) (by omega), cp_sub, es]
      simp
    · rw [if_neg (by rw [List.getElem?_eq_getElem hb]; simpa using h), List.nil_append, parts_split x c (k + 1) (b + 1) a (by omega) (by omega) (by omega)]
      have e : ((cp x).drop a).take (b + 1 - a) = ((cp x).drop a).take (b - a) ++ [(cp x)[b]] := by
        rw [show b + 1 - a = (b - a) + 1 by omega, List.take_add_one, List.getElem?_drop, show a + (b - a) = b by omega, List.getElem?_eq_getElem hb]
        rfl
      have es : spl c ((cp x)[b] :: (cp x).drop (b + 1)) = ((cp x)[b] :: (spl c ((cp x).drop (b + 1))).1, (spl c ((cp x).drop (b + 1))).2) := if_neg h
      rw [e, es, List.append_assoc]
      rfl
theorem kind_one (x : Str) (c : Nat) (hc : c < 256) : decide (Builtin.Str.strKind x < Builtin.Str.strKind (⟨#[c]⟩ : Str)) = false := by
  have h1 : Builtin.Str.strKind (⟨#[c]⟩ : Str) = 1 := by
    unfold Builtin.Str.strKind
    simp [hc]
  have h2 : 1 ≤ Builtin.Str.strKind x := by
    unfold Builtin.Str.strKind
    split
    · decide
    · split <;> decide
  rw [h1]
  exact decide_eq_false (by omega)
theorem txt_split (x : Str) (c : Nat) (hc : c < 256) : (Txt.split x ⟨#[c]⟩).map cp = (spl c (cp x)).1 :: (spl c (cp x)).2 := by
  have hp := parts_split x c (x.length + 1) 0 0 (Nat.le_refl _) (by omega) (by omega)
  simp only [Nat.sub_self, List.take_zero, List.nil_append, List.drop_zero] at hp
  have h0 : ∀ (h : ixs (cp x) c 0 (x.length + 1) = []), [cp x] = (spl c (cp x)).1 :: (spl c (cp x)).2 := fun h => by
    rw [h] at hp
    rw [← hp]
    show [cp x] = [cp (strSub x 0 x.length)]
    rw [cp_sub, List.drop_zero, Nat.sub_zero, List.take_of_length_le (by rw [cp_len]; exact Nat.le_refl _)]
  unfold Txt.split
  rw [kind_one x c hc, Bool.or_false, occ_all]
  split
  · rename_i h
    have hx : x.length < 1 := of_decide_eq_true h
    refine h0 ?_
    have e : x.length + 1 = 1 := by omega
    rw [e, ixs_succ, if_neg]
    · rfl
    · rw [List.getElem?_eq_none (by rw [cp_len]; omega)]
      simp
  · split
    · rename_i h
      exact h0 (List.isEmpty_iff.mp h)
    · rw [StrLaws.partsBetween_eq]
      exact hp
/-! ### names and marks -/
def low (c : Nat) : Bool := decide (97 ≤ c) && decide (c ≤ 122)
def isNm (n : List Nat) : Bool := (decide (1 ≤ n.length) && decide (n.length ≤ 8)) && n.all low
abbrev tw (p : List Nat) : List Nat := p.takeWhile (· != 62)
def pieceM (p : List Nat) : Option (List Nat) := if 62 ∈ p ∧ isNm (tw p) = true then some (tw p) else none
def marksP (L : List Nat) : List (List Nat) := (spl 60 L).2.filterMap pieceM
theorem spl_fst (c : Nat) : ∀ r : List Nat, (spl c r).1 = r.takeWhile (· != c)
  | [] => rfl
  | d :: r => by
    unfold spl
    by_cases h : d = c
    · subst h
      simp
    · rw [if_neg h, List.takeWhile_cons_of_pos (by simpa using h)]
      show d :: (spl c r).1 = _
      rw [spl_fst c r]
theorem spl_app (c : Nat) : ∀ (n r : List Nat), c ∉ n → spl c (n ++ r) = (n ++ (spl c r).1, (spl c r).2)
  | [], r, _ => rfl
  | d :: n, r, h => by
    have h1 : d ≠ c := fun e => h (by rw [e]; exact List.mem_cons_self ..)
    have es : spl c (d :: (n ++ r)) = (d :: (spl c (n ++ r)).1, (spl c (n ++ r)).2) := if_neg h1
    rw [List.cons_append, es, spl_app c n r fun m => h (List.mem_cons_of_mem _ m)]
    rfl
theorem tw_split : ∀ {r : List Nat}, 62 ∈ r → r = tw r ++ 62 :: r.drop ((tw r).length + 1)
  | [], h => by cases h
  | d :: r, h => by
    by_cases e : d = 62
    · subst e
      simp [tw]
    · have hr : 62 ∈ r := by
        rcases List.mem_cons.mp h with z | z
        · exact absurd z.symm e
        · exact z
      have ih := tw_split hr
      have et : tw (d :: r) = d :: tw r := List.takeWhile_cons_of_pos (by simpa using e)
      rw [et]
      show d :: r = d :: (tw r ++ 62 :: r.drop ((tw r).length + 1))
      rw [← ih]
theorem tw_app : ∀ {p : List Nat} (s : List Nat), 62 ∈ p → tw (p ++ s) = tw p
  | [], _, h => by cases h
  | d :: r, s, h => by
    by_cases e : d = 62
    · subst e
      simp [tw]
    · have hr : 62 ∈ r := by
        rcases List.mem_cons.mp h with z | z
        · exact absurd z.symm e
        · exact z
      have et : ∀ q, tw (d :: q) = d :: tw q := fun q => List.takeWhile_cons_of_pos (by simpa using e)
      rw [List.cons_append, et, et, tw_app s hr]
theorem mem_tw {p : Nat → Bool} : ∀ {l : List Nat} {c : Nat}, c ∈ l.takeWhile p → p c = true
  | [], _, h => by cases h
  | d :: r, c, h => by
    by_cases e : p d = true
    · rw [List.takeWhile_cons_of_pos e] at h
      rcases List.mem_cons.mp h with z | z
      · rw [z]
        exact e
      · exact mem_tw z
    · rw [List.takeWhile_cons_of_neg e] at h
      cases h
theorem tw_not (r : List Nat) : 62 ∉ tw r := fun h => by
  have := mem_tw h
  simp at this
theorem nm_not {n : List Nat} (h : isNm n = true) {c : Nat} (hc : low c = false) : c ∉ n := fun hm => by
  unfold isNm at h
  rw [Bool.and_eq_true] at h
  have := List.all_eq_true.mp h.2 c hm
  rw [hc] at this
  cases this
theorem marks_nil : marksP [] = [] := rfl
theorem marks_skip {c : Nat} (r : List Nat) (h : c ≠ 60) : marksP (c :: r) = marksP r := by
  unfold marksP
  show (if c = 60 then _ else _ : List Nat × List (List Nat)).2.filterMap pieceM = _
  rw [if_neg h]
theorem marks_open (r : List Nat) : marksP (60 :: r) = (pieceM (r.takeWhile (· != 60))).toList ++ marksP r := by
  unfold marksP
  show ((spl 60 r).1 :: (spl 60 r).2).filterMap pieceM = _
  rw [List.filterMap_cons, spl_fst]
  cases pieceM (r.takeWhile (· != 60)) <;> rfl
theorem marks_yes {r : List Nat} (h : 62 ∈ r) (hn : isNm (tw r) = true) : marksP (60 :: r) = tw r :: marksP (r.drop ((tw r).length + 1)) := by
  have e := tw_split h
  have h60 : (60 : Nat) ∉ tw r ++ [62] := by
    intro hm
    rcases List.mem_append.mp hm with z | z
    · exact nm_not hn (by decide) z
    · simp at z
  have e2 : r = (tw r ++ [62]) ++ r.drop ((tw r).length + 1) := by
    rw [List.append_assoc]
    exact e
  have es := spl_app 60 (tw r ++ [62]) (r.drop ((tw r).length + 1)) h60
  rw [← e2] at es
  have m1 : marksP r = marksP (r.drop ((tw r).length + 1)) := by
    unfold marksP
    rw [es]
  have p1 : pieceM (r.takeWhile (· != 60)) = some (tw r) := by
    rw [← spl_fst, es]
    unfold pieceM
    have hm : 62 ∈ tw r ++ [62] := List.mem_append.mpr (.inr (List.mem_singleton.mpr rfl))
    have et : tw (tw r ++ [62] ++ (spl 60 (r.drop ((tw r).length + 1))).1) = tw r := by
      rw [tw_app _ hm]
      have : ∀ n : List Nat, 62 ∉ n → tw (n ++ [62]) = n := by
        intro n hn2
        induction n with
        | nil => simp [tw]
        | cons d n ih =>
          have h1 : d ≠ 62 := fun e => hn2 (by rw [e]; exact List.mem_cons_self ..)
          show tw (d :: (n ++ [62])) = _
          rw [show tw (d :: (n ++ [62])) = d :: tw (n ++ [62]) from List.takeWhile_cons_of_pos (by simpa using h1), ih fun m => hn2 (List.mem_cons_of_mem _ m)]
      exact this _ (tw_not r)
    dsimp only
    rw [et, if_pos ⟨List.mem_append.mpr (.inl hm), hn⟩]
  rw [marks_open, p1, m1]
  rfl
theorem marks_no {r : List Nat} (h : ¬ (62 ∈ r ∧ isNm (tw r) = true)) : marksP (60 :: r) = marksP r := by
  have p1 : pieceM (r.takeWhile (· != 60)) = none := by
    unfold pieceM
    rw [if_neg]
    rintro ⟨h1, h2⟩
    have e : r = r.takeWhile (· != 60) ++ r.dropWhile (· != 60) := (List.takeWhile_append_dropWhile).symm
    have et := tw_app (r.dropWhile (· != 60)) h1
    rw [← e] at et
    refine h ⟨?_, by rw [et]; exact h2⟩
    rw [e]
    exact List.mem_append.mpr (.inl h1)
  rw [marks_open, p1]
  rfl
/-! ### partition, find, strip -/
theorem at_one (x : Str) (c i : Nat) : StrLaws.At x ⟨#[c]⟩ x.length i ↔ (cp x)[i]? = some c := StrLaws.subAt_one x c i
theorem tw_at : ∀ {L : List Nat} {i : Nat}, L[i]? = some 62 → (∀ k, k < i → L[k]? ≠ some 62) → tw L = L.take i
  | [], i, h, _ => by simp at h
  | d :: r, 0, h, _ => by
    have e : d = 62 := by simpa using h
    subst e
    simp [tw]
  | d :: r, i + 1, h, hn => by
    have h1 : d ≠ 62 := fun e => hn 0 (by omega) (by simp [e])
    rw [show tw (d :: r) = d :: tw r from List.takeWhile_cons_of_pos (by simpa using h1), tw_at (L := r) (i := i) (by simpa using h) fun j hj => by have := hn (j + 1) (by omega); simpa using this]
    rfl
theorem part_is (x : Str) : (62 ∈ cp x ∧ cp (Txt.partition x ⟨#[62]⟩).1 = tw (cp x) ∧ (Txt.partition x ⟨#[62]⟩).2.1 = ⟨#[62]⟩) ∨ (62 ∉ cp x ∧ (Txt.partition x ⟨#[62]⟩).2.1 = Str.empty) := by
  unfold Txt.partition
  rcases StrLaws.occ_head x ⟨#[62]⟩ 1 (Nat.le_refl 1) with ⟨h0, hn⟩ | ⟨i, r, h0, hi, hn⟩
  · right
    rw [h0]
    refine ⟨fun hm => ?_, rfl⟩
    obtain ⟨j, hj⟩ := List.getElem?_of_mem hm
    exact hn j ((at_one x 62 j).mpr hj)
  · left
    rw [h0]
    have hm := (at_one x 62 i).mp hi
    refine ⟨List.mem_of_getElem? hm, ?_, rfl⟩
    rw [cp_sub, List.drop_zero, Nat.sub_zero, tw_at hm fun k hk e => hn k hk ((at_one x 62 k).mpr e)]
theorem find_is (x : Str) (a : Nat) (ha : a ≤ x.length) : (62 ∉ (cp x).drop a ∧ Txt.find3 x ⟨#[62]⟩ (a : Int) = -1) ∨ (62 ∈ (cp x).drop a ∧ Txt.find3 x ⟨#[62]⟩ (a : Int) = ((a + (tw ((cp x).drop a)).length : Nat) : Int) ∧ a + (tw ((cp x).drop a)).length < x.length) := by
  unfold Txt.find3
  have e : fromIndex x.length (a : Int) = a := by
    unfold fromIndex
    omega
  rw [e]
  rcases StrLaws.occ_head_from x ⟨#[62]⟩ a 1 (Nat.le_refl 1) with ⟨h0, hn⟩ | ⟨i, r, h0, hl, hi, hn⟩
  · left
    rw [h0]
    refine ⟨fun hm => ?_, rfl⟩
    obtain ⟨j, hj⟩ := List.getElem?_of_mem hm
    rw [List.getElem?_drop] at hj
    exact hn (a + j) (by omega) ((at_one x 62 _).mpr hj)
  · right
    rw [h0]
    have hm := (at_one x 62 i).mp hi
    have hd : ((cp x).drop a)[i - a]? = some 62 := by
      rw [List.getElem?_drop, show a + (i - a) = i by omega]
      exact hm
    have ht := tw_at hd fun k hk e => by
      rw [List.getElem?_drop] at e
      exact hn (a + k) (by omega) (by omega) ((at_one x 62 _).mpr e)
    have hil : i < x.length := by
      obtain ⟨h, _⟩ := List.getElem?_eq_some_iff.mp hm
      rw [cp_len] at h
      exact h
    have hlen : (tw ((cp x).drop a)).length = i - a := by
      rw [ht, List.length_take, List.length_drop, cp_len]
      omega
    refine ⟨List.mem_of_getElem? hd, ?_, by omega⟩
    rw [hlen]
    show ((i : Nat) : Int) = _
    congr 1
    omega
theorem tw_all {p : Nat → Bool} : ∀ {l : List Nat}, (l.takeWhile p).length = l.length ↔ l.all p = true
  | [] => by simp
  | d :: r => by
    by_cases h : p d = true
    · rw [List.takeWhile_cons_of_pos h, List.all_cons, h, Bool.true_and, List.length_cons, List.length_cons, ← tw_all]
      omega
    · rw [List.takeWhile_cons_of_neg h, List.all_cons]
      simp [h]
theorem strip_is (x y : Str) : (Txt.stripChars x y = Str.empty) ↔ (cp x).all y.cps.contains = true := by
  unfold Txt.stripChars
  rw [PySem.W.stripBy_eq]
  unfold PySem.W.stripped
  simp only [if_true]
  show (strSub x ((cp x).takeWhile y.cps.contains).length (x.length - (((cp x).drop ((cp x).takeWhile y.cps.contains).length).reverse.takeWhile y.cps.contains).length) = Str.empty) ↔ _
  have hlen := cp_len x
  constructor
  · intro h
    have h2 := congrArg (fun s => (cp s).length) h
    rw [cp_sub] at h2
    have e0 : (cp Str.empty).length = 0 := rfl
    rw [e0, List.length_take, List.length_drop] at h2
    by_cases ha : (cp x).all y.cps.contains = true
    · exact ha
    · exfalso
      have hlt : ((cp x).takeWhile y.cps.contains).length < (cp x).length := by
        have h3 : ((cp x).takeWhile y.cps.contains).length ≤ (cp x).length := (List.takeWhile_sublist _).length_le
        have h4 : ¬ ((cp x).takeWhile y.cps.contains).length = (cp x).length := fun e => ha (tw_all.mp e)
        omega
      have hrev : (((cp x).drop ((cp x).takeWhile y.cps.contains).length).reverse.takeWhile y.cps.contains).length < ((cp x).drop ((cp x).takeWhile y.cps.contains).length).length := by
        have h3 : (((cp x).drop ((cp x).takeWhile y.cps.contains).length).reverse.takeWhile y.cps.contains).length ≤ ((cp x).drop ((cp x).takeWhile y.cps.contains).length).reverse.length := (List.takeWhile_sublist _).length_le
        have h4 : ¬ (((cp x).drop ((cp x).takeWhile y.cps.contains).length).reverse.takeWhile y.cps.contains).length = ((cp x).drop ((cp x).takeWhile y.cps.contains).length).reverse.length := fun e => by
          have h5 := tw_all.mp e
          rw [List.all_reverse] at h5
          refine ha ?_
          have h6 : cp x = (cp x).takeWhile y.cps.contains ++ (cp x).drop ((cp x).takeWhile y.cps.contains).length := by
            have h8 : (cp x).takeWhile y.cps.contains = (cp x).take ((cp x).takeWhile y.cps.contains).length := List.prefix_iff_eq_take.mp (List.takeWhile_prefix _)
            conv => lhs; rw [← List.take_append_drop ((cp x).takeWhile y.cps.contains).length (cp x)]
            rw [← h8]
          rw [h6, List.all_append, h5, Bool.and_true, List.all_eq_true]
          intro c hc
          exact mem_tw hc
        rw [List.length_reverse] at h3 h4
        omega
      rw [List.length_drop] at hrev
      omega
  · intro ha
    refine cp_ext ?_
    rw [cp_sub]
    have e1 : ((cp x).takeWhile y.cps.contains).length = (cp x).length := tw_all.mpr ha
    rw [e1, List.drop_length, List.take_nil]
    rfl
end Sg

namespace Sg
open PySem PySem.Spec PyProof.Rows L2
def topS (i : Nat) : Stmt := PySem.Challenge.pw_sheafbooks_k40_marks_in_texts.main.body.getD i (.Pass ⟨0, 0, 0, 0⟩)
abbrev sTape : Stmt := topS 7
abbrev sDraw : Stmt := topS 8
theorem scTape : FnScope ["_law_script", "_law_k", "_law_cell"] ["_law_script", "_law_k"] (defScope sTape) := ⟨rfl, rfl, rfl, by decide +kernel, rfl, by decide +kernel, by decide +kernel⟩
theorem scDraw : FnScope ["_law_tape_here", "_law_many", "_law_found", "_law_once", "_law_twice", "_law_wide"] ["_law_tape_here", "_law_many"] (defScope sDraw) := ⟨rfl, rfl, rfl, by decide +kernel, rfl, by decide +kernel, by decide +kernel⟩
/-- a tape: three numbers, at most n draws done -/
def TapeAt (H : Hp) (t : Addr) (n : Nat) : Prop := ∃ a b c : Int, H t = some (.lst [.int a, .int b, .int c]) ∧ 0 ≤ b ∧ b < 2 ^ 62 ∧ 0 ≤ c ∧ c ≤ n
theorem TapeAt.mono {H : Hp} {t : Addr} {n m : Nat} (h : TapeAt H t n) (l : n ≤ m) : TapeAt H t m := by
  obtain ⟨a, b, c, e, h1, h2, h3, h4⟩ := h
  exact ⟨a, b, c, e, h1, h2, h3, by omega⟩
theorem TapeAt.keepT {H H' : Hp} {t : Addr} {n : Nat} (h : TapeAt H t n) (e : Ex t H H') : KeepT H H' := by
  obtain ⟨a, b, c, h, _⟩ := h
  exact e.keepT h
theorem TapeAt.ne_tup {H : Hp} {t p : Addr} {n : Nat} {xs : List V} (h : TapeAt H t n) (e : H p = some (.tup xs)) : p ≠ t := by
  obtain ⟨a, b, c, h, _⟩ := h
  intro q
  subst q
  rw [h] at e
  cases e
theorem TapeAt.ne_none {H : Hp} {t p : Addr} {n : Nat} (h : TapeAt H t n) (e : H p = none) : p ≠ t := by
  obtain ⟨a, b, c, h, _⟩ := h
  intro q
  subst q
  rw [h] at e
  cases e
theorem TapeAt.same {H H' : Hp} {t : Addr} {n : Nat} (h : TapeAt H t n) (e : Same H H') : TapeAt H' t n := by
  obtain ⟨a, b, c, h, r⟩ := h
  exact ⟨a, b, c, e _ _ h, r⟩
theorem TapeAt.upd {H : Hp} {t p : Addr} {n : Nat} {o : HO} (h : TapeAt H t n) (e : p ≠ t) : TapeAt (L2.upd H p o) t n := by
  obtain ⟨a, b, c, h, r⟩ := h
  exact ⟨a, b, c, by rw [upd_ne (Ne.symm e)]; exact h, r⟩
def spDraw : Sp := fun vs H Q _ => ∃ (t : Addr) (m : Int) (n : Nat), vs = [.ref t, .int m] ∧ 1 ≤ m ∧ m ≤ 1000 ∧ TapeAt H t n ∧ n ≤ 1000000 ∧
  ∀ (r : Int) (H' : Hp), Ex t H H' → TapeAt H' t (n + 1) → 0 ≤ r → r < m → Q (.int r) H'
theorem mod_lt {i j : Int} (h : 0 < j) : 0 ≤ i % j ∧ i % j < j := ⟨Int.emod_nonneg _ (by omega), Int.emod_lt_of_pos _ h⟩
section
variable {P : Program} {w : World} {K : PySem.W.Frag} {mg : Str → Option Value} {base : Heap}
theorem ok_draw {f : Addr} {fd : FuncData} {k : Nat} (F : Fun K "_law_draw" "_law_draw" sDraw f fd) : FnOk P w K mg base CX0 (k + 1) f fd ["_law_tape_here", "_law_many"] spDraw := by
  refine F.ok scDraw (fun vs H Q E h => ?_) (fun cdv A outer s H vs Q E hr h => ?_)
  · obtain ⟨t, m, n, rfl, _⟩ := h
    rfl
  · obtain ⟨t, m, n, rfl, hm1, hm2, hT, hn, q⟩ := h
    refine ⟨_, pss_cons (ps_if (pt_cmpR op_gt (pe_ix ix_list (pv 0) pe_int (fun _ _ => rfl)) pe_int (nomark _))
        (pss_cons (ps_set (i := 2) scDraw.nd rfl (.inl rfl) (pe_op op_mod (pe_ix ix_list (pv 0) pe_int (fun _ _ => rfl)) (pv 1)))
        (pss_cons (ps_asg (pe_op op_fdiv (pe_ix ix_list (pv 0) pe_int (fun _ _ => rfl)) (pv 1)) (pg_sub (pv 0) pe_int set_list))
        (pss_one (ps_ret (pv 2))))) pss_nil)
      (pss_cons (ps_asg (pe_op op_add (pe_ix ix_list (pv 0) pe_int (fun _ _ => rfl)) pe_int) (pg_sub (pv 0) pe_int set_list))
      (pss_cons (ps_set (i := 3) scDraw.nd rfl (.inl rfl) (pe_op op_mod (pe_op op_pow (pe_op op_add (pe_ix ix_list (pv 0) pe_int (fun _ _ => rfl)) (pe_op op_mul pe_int (pe_ix ix_list (pv 0) pe_int (fun _ _ => rfl)))) pe_int) pe_int))
      (pss_cons (ps_set (i := 4) scDraw.nd rfl (.inl rfl) (pe_op op_mod (pe_op op_mul (pe_op op_add (pv 3) (pe_ix ix_list (pv 0) pe_int (fun _ _ => rfl))) (pe_op op_add (pe_op op_add (pe_op op_mod (pv 3) pe_int) pe_int) (pe_ix ix_list (pv 0) pe_int (fun _ _ => rfl)))) pe_int))
      (pss_cons (ps_set (i := 5) scDraw.nd rfl (.inl rfl) (pe_op op_mod (pe_op op_add (pe_op op_add (pe_op op_fdivW (pe_ix ix_list (pv 0) pe_int (fun _ _ => rfl)) pe_int) (pe_op op_mul (pv 4) pe_int)) (pe_ix ix_list (pv 0) pe_int (fun _ _ => rfl))) pe_int))
      (pss_one (ps_ret (pe_op op_mod (pe_op op_fdiv (pe_op op_mod (pe_op op_add (pe_op op_add (pe_op op_mul (pv 4) pe_int) (pe_op op_mul (pv 5) pe_int)) (pv 3)) pe_int) pe_int) (pv 1)))))))), ?_⟩
    obtain ⟨a, b, c, e, hb0, hb1, hc0, hc1⟩ := hT
    refine ⟨.ref t, rfl, t, _, 0, .int a, rfl, rfl, SqL.of e, rfl, a, 0, rfl, rfl, _, rfl, ite2 (fun ha => ?_) (fun ha => ?_)⟩
    · refine ⟨.ref t, rfl, t, _, 0, .int a, rfl, rfl, SqL.of e, rfl, .int m, rfl, a, m, rfl, rfl, by omega, ?_⟩
      refine ⟨.ref t, rfl, t, _, 0, .int a, rfl, rfl, SqL.of e, rfl, .int m, rfl, a, m, rfl, rfl, ⟨by omega, by omega⟩, ?_⟩
      refine ⟨.ref t, rfl, t, _, 0, 0, rfl, rfl, e, rfl, ?_⟩
      refine ⟨_, rfl, ?_⟩
      exact q _ _ (Ex.upd (Ex.refl t H)) ⟨_, _, _, upd_same, hb0, hb1, hc0, by omega⟩ (mod_lt (by omega)).1 (mod_lt (by omega)).2
    · refine ⟨.ref t, rfl, t, _, 2, .int c, rfl, rfl, SqL.of e, rfl, c, 1, rfl, rfl, ?_⟩
      refine ⟨.ref t, rfl, t, _, 2, 2, rfl, rfl, e, rfl, ?_⟩
      have e1 : upd H t (.lst [.int a, .int b, .int (c + 1)]) t = some (.lst [.int a, .int b, .int (c + 1)]) := upd_same
      refine ⟨.ref t, rfl, t, _, 1, .int b, rfl, rfl, SqL.of e1, rfl, .ref t, rfl, t, _, 2, .int (c + 1), rfl, rfl, SqL.of e1, rfl, 39373, c + 1, rfl, rfl, .inl ⟨by decide, by decide⟩, b, _, rfl, rfl, _, 5, rfl, rfl, ⟨by decide, by decide, ?_⟩, _, 2147483647, rfl, rfl, (by decide : (0 : Int) < 2147483647), ?_⟩
      · show (b + 39373 * (c + 1)).natAbs < 2 ^ 64
        omega
      dsimp only
      generalize hx : (b + 39373 * (c + 1)) ^ (5 : Int).toNat % 2147483647 = x
      have hx1 := mod_lt (i := (b + 39373 * (c + 1)) ^ (5 : Int).toNat) (j := 2147483647) (by decide)
      rw [hx] at hx1
      refine ⟨.int x, rfl, .ref t, rfl, t, _, 2, .int (c + 1), rfl, rfl, SqL.of e1, rfl, x, c + 1, rfl, rfl, .int x, rfl, x, 40009, rfl, rfl, (by decide : (0 : Int) < 40009), _, 7, rfl, rfl, .ref t, rfl, t, _, 2, .int (c + 1), rfl, rfl, SqL.of e1, rfl, _, c + 1, rfl, rfl, _, _, rfl, rfl, .inl ⟨by omega, by omega⟩, _, 2147483629, rfl, rfl, (by decide : (0 : Int) < 2147483629), ?_⟩
      dsimp only
      generalize hy : (x + (c + 1)) * (x % 40009 + 7 + (c + 1)) % 2147483629 = y
      have hy1 := mod_lt (i := (x + (c + 1)) * (x % 40009 + 7 + (c + 1))) (j := 2147483629) (by decide)
      rw [hy] at hy1
      refine ⟨.ref t, rfl, t, _, 1, .int b, rfl, rfl, SqL.of e1, rfl, b, 2147483647, rfl, rfl, wide_div (b := 64) (by decide) (by decide) (by decide) (by decide), .int y, rfl, y, 40009, rfl, rfl, .inl ⟨by omega, by omega⟩, _, _, rfl, rfl, .ref t, rfl, t, _, 2, .int (c + 1), rfl, rfl, SqL.of e1, rfl, _, c + 1, rfl, rfl, _, 2305843009213693951, rfl, rfl, (by decide : (0 : Int) < 2305843009213693951), ?_⟩
      dsimp only
      generalize hz : (b / 2147483647 + y * 40009 + (c + 1)) % 2305843009213693951 = z
      have hz1 := mod_lt (i := (b / 2147483647 + y * 40009 + (c + 1))) (j := 2305843009213693951) (by decide)
      rw [hz] at hz1
      refine ⟨.int y, rfl, y, 48271, rfl, rfl, .inl ⟨by omega, by omega⟩, .int z, rfl, z, 39373, rfl, rfl, .inl ⟨by omega, by omega⟩, _, _, rfl, rfl, .int x, rfl, _, x, rfl, rfl, _, 2305843009213693921, rfl, rfl, (by decide : (0 : Int) < 2305843009213693921), _, 64, rfl, rfl, ⟨by decide, by decide⟩, .int m, rfl, _, m, rfl, rfl, by omega, ?_⟩
      exact q _ _ (Ex.upd (Ex.refl t H)) ⟨_, _, _, upd_same, hb0, hb1, by omega, by omega⟩ (mod_lt (by omega)).1 (mod_lt (by omega)).2
end
end Sg

namespace Sg
open PySem PySem.Spec PyProof.Rows L2
abbrev sFolded : Stmt := topS 9
theorem scFolded : FnScope ["_law_script", "_law_many", "_law_cells", "_law_k", "_law_cell"] ["_law_script", "_law_many"] (defScope sFolded) := ⟨rfl, rfl, rfl, by decide +kernel, rfl, by decide +kernel, by decide +kernel⟩
section
variable {P : Program} {w : World} {K : PySem.W.Frag} {mg : Str → Option Value} {base : Heap}
theorem b01 (b : Bool) : -(2 ^ 64) < (if b = true then (1 : Int) else 0) ∧ (if b = true then (1 : Int) else 0) < 2 ^ 64 := by
  cases b <;> decide
def spTape (K : PySem.W.Frag) : Sp := fun vs H Q _ => ∃ (a : Addr) (k : Nat) (ns : List Int), vs = [.ref a, .int (k : Int)] ∧ SqL K H a (ns.map V.int) ∧ k ≤ 1000 ∧
  ∀ (t : Addr) (H' : Hp), Same H H' → H t = none → TapeAt H' t 0 → Q (.ref t) H'
theorem ok_tape {f : Addr} {fd : FuncData} {k : Nat} (F : Fun K "_law_tape" "_law_tape" sTape f fd) (ml : mg "len" = none) (ma : mg "abs" = none) (mi : mg "int" = none) : FnOk P w K mg base CX0 (k + 1) f fd ["_law_script", "_law_k"] (spTape K) := by
  refine F.ok scTape (fun vs H Q E h => ?_) (fun cdv A outer s H vs Q E hr h => ?_)
  · obtain ⟨a, k, ns, rfl, _⟩ := h
    rfl
  · obtain ⟨a, j, ns, rfl, hS, hj1, q⟩ := h
    refine ⟨_, pss_cons (ps_set (i := 2) scTape.nd rfl (.inl rfl) (pe_ifExp (pt_cmpR op_lt (pv 1) (pe_callB call_len_seq (by rfl) ml PySem.boot_len (pa_cons (pv 0) pa_nil)) (nomark _)) (pe_ix ix_list (pv 0) (pv 1) (fun _ _ => rfl)) pe_int))
      (pss_one (ps_ret (pe_lst (pa_cons (pe_op op_mul (pe_callB call_abs (by rfl) ma (by decide +kernel) (pa_cons (pv 2) pa_nil)) (pe_callTy call_int1 (by rfl) mi (by decide +kernel) (pa_cons (pe_cmpR op_ge (pe_callB call_abs (by rfl) ma (by decide +kernel) (pa_cons (pv 2) pa_nil)) (pe_op op_pow pe_int pe_int) (nomark _)) pa_nil)))
        (pa_cons (pe_op op_add (pe_op op_add (pe_op op_mod (pv 2) pe_int) (pe_op op_mul pe_int (pv 1))) pe_int) (pa_cons pe_int pa_nil)))))), ?_⟩
    refine ⟨.int j, rfl, .ref a, rfl, a, _, rfl, .inl hS, j, _, rfl, rfl, _, rfl, ite2 (fun hc => ?_) (fun hc => ?_)⟩
    · have hc' : (j : Int) < ((ns.map V.int).length : Int) := of_decide_eq_true hc
      rw [List.length_map] at hc'
      have hj : j < ns.length := by omega
      have g : atI (ns.map V.int) (j : Int) = some (.int ns[j]) := atI_nat (by rw [List.getElem?_map, List.getElem?_eq_getElem hj]; rfl)
      refine ⟨.ref a, rfl, .int j, rfl, a, _, j, .int ns[j], rfl, rfl, hS, g, ?_⟩
      refine ⟨_, rfl, _, rfl, _, rfl, _, rfl, 10, 18, rfl, rfl, ⟨by decide, by decide, by decide⟩, _, _, rfl, rfl, .inr ⟨_, rfl, _, _, rfl, rfl, .inr ⟨?_, ?_⟩, ?_⟩⟩
      · exact (b01 _).1
      · exact (b01 _).2
      refine ⟨_, rfl, _, 2305843009213693951, rfl, rfl, (by decide : (0 : Int) < 2305843009213693951), .int j, rfl, 39373, j, rfl, rfl, .inl ⟨by decide, by decide⟩, _, _, rfl, rfl, _, _, rfl, rfl, (by show 3 ≤ sizeLine; decide), fun t nt => ?_⟩
      have hm := mod_lt (i := ns[j]) (j := 2305843009213693951) (by decide)
      exact q _ _ (same_upd nt) nt ⟨_, _, _, upd_same, by omega, by omega, by omega, by omega⟩
    · refine ⟨_, rfl, _, rfl, _, rfl, _, rfl, 10, 18, rfl, rfl, ⟨by decide, by decide, by decide⟩, _, _, rfl, rfl, .inr ⟨_, rfl, _, _, rfl, rfl, .inr ⟨?_, ?_⟩, ?_⟩⟩
      · exact (b01 _).1
      · exact (b01 _).2
      refine ⟨_, rfl, _, 2305843009213693951, rfl, rfl, (by decide : (0 : Int) < 2305843009213693951), .int j, rfl, 39373, j, rfl, rfl, .inl ⟨by decide, by decide⟩, _, _, rfl, rfl, _, _, rfl, rfl, (by show 3 ≤ sizeLine; decide), fun t nt => ?_⟩
      exact q _ _ (same_upd nt) nt ⟨_, _, _, upd_same, by omega, by omega, by omega, by omega⟩
theorem cut_len {α : Type} (xs : List α) (n : Nat) : (xs.take n).length = min n xs.length := List.length_take
def spFolded (K : PySem.W.Frag) : Sp := fun vs H Q _ => ∃ (a : Addr) (m : Nat) (ns : List Int), vs = [.ref a, .int (m : Int)] ∧ SqL K H a (ns.map V.int) ∧ 1 ≤ m ∧ m ≤ 60 ∧ ns.length ≤ 63 ∧
  ∀ (c : Addr) (H' : Hp) (ms : List Int), Same H H' → H c = none → H' c = some (.lst (ms.map V.int)) → ms.length = min m ns.length → Q (.ref c) H'
theorem cut_ints (ns : List Int) (lo hi : Option Int) : cutV (ns.map V.int) lo hi = ((ns.drop (HT.sIx ns.length 0 lo)).take (HT.sIx ns.length ns.length hi - HT.sIx ns.length 0 lo)).map V.int := by
  unfold cutV
  rw [List.length_map, ← List.map_drop, ← List.map_take]
theorem ok_folded {f : Addr} {fd : FuncData} {k : Nat} (F : Fun K "_law_folded" "_law_folded" sFolded f fd) (ml : mg "list" = none) (me : mg "enumerate" = none) : FnOk P w K mg base CX0 (k + 1) f fd ["_law_script", "_law_many"] (spFolded K) := by
  refine F.ok scFolded (fun vs H Q E h => ?_) (fun cdv A outer s H vs Q E hr h => ?_)
  · obtain ⟨a, m, ns, rfl, _⟩ := h
    rfl
  · obtain ⟨a, m, ns, rfl, hS, hm0, hm1, hn, q⟩ := h
    refine ⟨_, pss_cons (ps_set (i := 2) scFolded.nd rfl (.inl rfl) (pe_callTy call_list_of (by rfl) ml (by decide +kernel) (pa_cons (pe_slice sl_list (pv 0) po_none (po_some (pv 1))) pa_nil)))
      (pss_cons (ps_for PassesOwn.never rfl (pi_enum (by rfl) me (pa_cons (pe_slice sl_list (pv 0) (po_some (pv 1)) (po_some pe_int)) pa_nil))
          (pg_tup rfl (pgs_cons (pg_name (i := 3) scFolded.nd rfl (.inl rfl)) (pgs_cons (pg_name (i := 4) scFolded.nd rfl (.inl rfl)) pgs_nil)))
        (pss_one (ps_asg (pe_op op_add (pe_ix ix_list (pv 2) (pe_op op_mod (pv 3) (pv 1)) (fun _ _ => rfl)) (pe_op op_mul (pv 4) (pe_op op_add (pv 3) pe_int))) (pg_sub (pv 2) (pe_op op_mod (pv 3) (pv 1)) set_list))))
      (pss_one (ps_ret (pv 2)))), ?_⟩
    refine ⟨.ref a, rfl, .int (m : Int), rfl, (m : Int), rfl, a, _, rfl, hS, fun s1 n1 => ⟨s1, _, rfl, .inl (SqL.of upd_same), fun c nc => ?_⟩⟩
    have sm1 : Same H (upd H s1 (.lst (cutV (ns.map V.int) none (some (m : Int))))) := same_upd n1
    have sm2 := Same.trans sm1 (same_upd (o := .lst (cutV (ns.map V.int) none (some (m : Int)))) nc)
    refine ⟨.ref a, rfl, .int (m : Int), rfl, (m : Int), rfl, 63, rfl, a, _, rfl, Same.seq sm2 hS, fun d nd => ⟨d, _, rfl, SqL.of upd_same, ?_⟩⟩
    have sm3 := Same.trans sm2 (same_upd (o := .lst (cutV (ns.map V.int) (some (m : Int)) (some 63))) nd)
    have hcH : H c = none := sm1.free nc
    have ndc : c ≠ d := fun e => by
      subst e
      rw [upd_same] at nd
      cases nd
    have e1 : HT.sIx ns.length 0 none = 0 := rfl
    have e2 : HT.sIx ns.length ns.length (some (m : Int)) = min m ns.length := HT.sIx_nat _ _ _
    have e3 : HT.sIx ns.length 0 (some (m : Int)) = min m ns.length := HT.sIx_nat _ _ _
    have len1 : ((ns.drop 0).take (min m ns.length - 0)).length = min m ns.length := by
      rw [List.length_take, List.drop_zero]
      omega
    generalize hzs : (ns.drop (HT.sIx ns.length 0 (some (m : Int)))).take (HT.sIx ns.length ns.length (some 63) - HT.sIx ns.length 0 (some (m : Int))) = zs
    have hzl : zs.length ≤ ns.length - min m ns.length := by
      rw [← hzs, List.length_take, List.length_drop, e3]
      omega
    have hcut : cutV (ns.map V.int) (some (m : Int)) (some 63) = zs.map V.int := by rw [cut_ints, hzs]
    rw [hcut] at sm3 ⊢
    refine for_it (walk_enum (xs := zs.map V.int)) (fun i σ H3 => ∃ (y3 y4 : Option V) (ms : List Int), σ = [some (.ref a), some (.int (m : Int)), some (.ref c), y3, y4] ∧ Same H H3 ∧ H3 c = some (.lst (ms.map V.int)) ∧ ms.length = min m ns.length ∧ H3 d = some (.lst (zs.map V.int))) ?_ ?_ ?_ ?_
    · refine ⟨none, none, _, rfl, sm3, ?_, len1, upd_same⟩
      rw [upd_ne ndc, upd_same, cut_ints, e1, e2]
    · rintro i σ H3 _ ⟨y3, y4, ms, rfl, sm, hc, hl, hd⟩
      exact SqL.of hd
    · rintro i x σ H3 H4 hi ⟨y3, y4, ms, rfl, sm, hc, hl, hd⟩ ⟨T, x1, x2, rfl, nT, rfl, f1, f2⟩
      rw [List.length_map] at hi
      cases f1
      have f2 : (zs.map V.int)[i]? = some x2 := f2
      rw [List.getElem?_map, List.getElem?_eq_getElem hi] at f2
      cases f2
      have hlm : ms.length = m := by omega
      have nTc : c ≠ T := ne_of_none hc nT
      have nTd : d ≠ T := ne_of_none hd nT
      have hc' : upd H3 T (.tup [.int (i : Nat), .int zs[i]]) c = some (.lst (ms.map V.int)) := by rw [upd_ne nTc]; exact hc
      have him : i % m < ms.length := by
        rw [hlm]
        exact Nat.mod_lt _ (by omega)
      have ei : ((i : Nat) : Int) % (m : Int) = ((i % m : Nat) : Int) := by rw [Int.natCast_emod]
      have g : atI (ms.map V.int) (((i : Nat) : Int) % (m : Int)) = some (.int ms[i % m]) := by
        rw [ei]
        exact atI_nat (by rw [List.getElem?_map, List.getElem?_eq_getElem him]; rfl)
      have g2 : ixN (ms.map V.int).length (((i : Nat) : Int) % (m : Int)) = some (i % m) := by
        rw [ei, List.length_map]
        unfold ixN
        rw [if_pos (by omega), if_pos (by omega), Int.toNat_natCast]
      refine ⟨T, _, rfl, SqT.of upd_same, rfl, _, _, rfl, _, _, rfl, rfl, ?_⟩
      refine ⟨.ref c, rfl, .int (i : Nat), rfl, .int (m : Int), rfl, _, _, rfl, rfl, by omega, c, _, _, .int ms[i % m], rfl, rfl, SqL.of hc', g, .int zs[i], rfl, .int (i : Nat), rfl, _, 2, rfl, rfl, _, _, rfl, rfl, .inr ⟨by omega, by omega⟩, _, _, rfl, rfl, ?_⟩
      refine ⟨.ref c, rfl, .int (i : Nat), rfl, .int (m : Int), rfl, _, _, rfl, rfl, by omega, c, _, _, i % m, rfl, rfl, hc', g2, ?_⟩
      refine ⟨some (.int (i : Nat)), some (.int zs[i]), ms.set (i % m) (ms[i % m] + zs[i] * ((i : Int) + 2)), rfl, fun b z e => ?_, ?_, ?_, ?_⟩
      · rw [upd_ne (fun q => by subst q; rw [hcH] at e; cases e), upd_ne (ne_of_none (sm _ _ e) nT)]
        exact sm _ _ e
      · rw [upd_same, List.map_set]
      · rw [List.length_set]
        exact hl
      · rw [upd_ne ndc.symm, upd_ne nTd]
        exact hd
    · rintro σ H3 ⟨y3, y4, ms, rfl, sm, hc, hl, hd⟩
      exact ⟨.ref c, rfl, q _ _ ms sm hcH hc hl⟩
end
end Sg

namespace Sg
open PySem PySem.Spec PyProof.Rows L2
abbrev sNames : Stmt := topS 10
abbrev nNames : List Str := ["_law_tape_here", "_law_many", "_law_letters", "_law_shift", "_law_k", "_law_stem", "_law_at", "_law_step", "_law_found", "_law_head", "_law_tail", "_law_way", "_law_sign"]
theorem scNames : FnScope nNames ["_law_tape_here", "_law_many"] (defScope sNames) := ⟨rfl, rfl, rfl, by decide +kernel, rfl, by decide +kernel, by decide +kernel⟩
abbrev abc : Str := Str.ofString "abcdefghijklmnopqrstuvwxyz"
theorem abc_len : abc.cps.toList.length = 26 := by decide +kernel
theorem abc_low : ∀ c ∈ abc.cps.toList, 97 ≤ c ∧ c ≤ 122 := by decide +kernel
theorem abc_code : ∀ j, j < 26 → abc.cps.toList[j]? = some (97 + j) := by decide +kernel
theorem letter {i : Int} (h0 : 0 ≤ i) (h1 : i < 26) : ∃ c : Nat, atI abc.cps.toList i = some c ∧ Low ⟨#[c]⟩ ∧ (c : Int) = 97 + i := by
  obtain ⟨j, rfl⟩ : ∃ j : Nat, i = j := ⟨i.toNat, by omega⟩
  have hj : j < abc.cps.toList.length := by rw [abc_len]; omega
  have hcode : abc.cps.toList[j] = 97 + j := Option.some.inj ((List.getElem?_eq_getElem hj).symm.trans (abc_code j (by omega)))
  refine ⟨abc.cps.toList[j], atI_nat (List.getElem?_eq_getElem hj), fun c hc => ?_, by rw [hcode]; omega⟩
  have e : (⟨#[abc.cps.toList[j]]⟩ : Str).cps.toList = [abc.cps.toList[j]] := rfl
  rw [e] at hc
  rw [List.mem_singleton.mp hc]
  exact abc_low _ (List.getElem_mem hj)
theorem three {α : Type} {r : Int} (h0 : 0 ≤ r) (h1 : r < 3) (x y z : α) : ∃ v, atI [x, y, z] r = some v ∧ (v = x ∨ v = y ∨ v = z) := by
  have : r = 0 ∨ r = 1 ∨ r = 2 := by omega
  rcases this with rfl | rfl | rfl
  · exact ⟨x, rfl, .inl rfl⟩
  · exact ⟨y, rfl, .inr (.inl rfl)⟩
  · exact ⟨z, rfl, .inr (.inr rfl)⟩
theorem threeE {α : Type} {r : Int} (h0 : 0 ≤ r) (h1 : r < 3) (x y z : α) : atI [x, y, z] r = some (if r = 0 then x else if r = 1 then y else z) := by
  have : r = 0 ∨ r = 1 ∨ r = 2 := by omega
  rcases this with rfl | rfl | rfl <;> rfl
/-- the number that the way takes -/
def selM (W : Int) (j : Nat) : Int := if W = 1 then ((j / 2 : Nat) : Int) else (j : Int)
/-- names as they are made: one head, a letter, a tail -/
def Frm (hd tl : Str) (sh st W : Int) (ws : List Str) : Prop := ∀ (j : Nat) (x : Str), ws[j]? = some x → ∃ (c : Nat) (tj : Str), x = hd ++ ⟨#[c]⟩ ++ tj ∧ (c : Int) = 97 + (sh + st * selM W j) % 26 ∧ (W = 1 → tj = if j % 2 = 0 then Str.empty else tl)
theorem sel_inj {sh st : Int} {a b : Nat} (hst : st = 1 ∨ st = 7 ∨ st = 25) (ha : a < 26) (hb : b < 26) (h : (sh + st * (a : Int)) % 26 = (sh + st * (b : Int)) % 26) : a = b := by
  rcases hst with rfl | rfl | rfl <;> omega
theorem str_cut {hd a b ta tb : Str} {c d : Nat} (h : hd ++ (⟨#[c]⟩ : Str) ++ ta = hd ++ (⟨#[d]⟩ : Str) ++ tb) : c = d ∧ ta = tb := by
  have e := congrArg (fun x : Str => x.cps.toList) h
  have l : ∀ (c : Nat) (t : Str), (hd ++ (⟨#[c]⟩ : Str) ++ t).cps.toList = hd.cps.toList ++ (c :: t.cps.toList) := fun c t => by
    have e1 := TL.tl_append (hd ++ (⟨#[c]⟩ : Str)) t
    have e2 := TL.tl_append hd (⟨#[c]⟩ : Str)
    show TL.tl (hd ++ (⟨#[c]⟩ : Str) ++ t) = _
    rw [e1, e2, List.append_assoc]
    rfl
  simp only [l] at e
  have e2 := List.append_cancel_left e
  have e3 := (List.cons.inj e2)
  refine ⟨e3.1, ?_⟩
  have e4 := e3.2
  cases ta with
  | mk x =>
    cases tb with
    | mk y =>
      have : x = y := by
        have := congrArg List.toArray e4
        simpa using this
      rw [this]
theorem Frm.nodup {hd tl : Str} {sh st W : Int} {ws : List Str} (h : Frm hd tl sh st W ws) (hst : st = 1 ∨ st = 7 ∨ st = 25) (hl : ws.length ≤ 26) (hW : W = 1 → tl ≠ Str.empty) : ws.Nodup := by
  rw [List.nodup_iff_pairwise_ne, List.pairwise_iff_getElem]
  intro i j hi hj hij e
  obtain ⟨c, t1, h1, h2, h3⟩ := h i _ (List.getElem?_eq_getElem hi)
  obtain ⟨d, t2, g1, g2, g3⟩ := h j _ (List.getElem?_eq_getElem hj)
  rw [h1, g1] at e
  obtain ⟨e1, e2⟩ := str_cut (a := hd) (b := hd) e
  subst e1
  have em : (sh + st * selM W i) % 26 = (sh + st * selM W j) % 26 := by omega
  by_cases w1 : W = 1
  · have s1 : selM W i = ((i / 2 : Nat) : Int) := if_pos w1
    have s2 : selM W j = ((j / 2 : Nat) : Int) := if_pos w1
    rw [s1, s2] at em
    have := sel_inj hst (by omega) (by omega) em
    have p1 := h3 w1
    have p2 := g3 w1
    rw [p1, p2] at e2
    have hne := hW w1
    by_cases z : i % 2 = 0
    · rw [if_pos z, if_neg (by omega)] at e2
      exact hne e2.symm
    · rw [if_neg z, if_pos (by omega)] at e2
      exact hne e2
  · have s1 : selM W i = (i : Int) := if_neg w1
    have s2 : selM W j = (j : Int) := if_neg w1
    rw [s1, s2] at em
    have := sel_inj hst (by omega) (by omega) em
    omega
theorem sz (n : Nat) (h : n ≤ 1000) : n ≤ sizeLine := Nat.le_of_lt (small1000 h)
section
variable {P : Program} {w : World} {K : PySem.W.Frag} {mg : Str → Option Value} {base : Heap}
def spNames : Sp := fun vs H Q _ => ∃ (t : Addr) (m n : Nat), vs = [.ref t, .int (m : Int)] ∧ m ≤ 60 ∧ TapeAt H t n ∧ n ≤ 900000 ∧
  ∀ (p : Addr) (H' : Hp) (ws : List Str), Ex t H H' → TapeAt H' t (n + 12) → H p = none → H' p = some (.lst (ws.map V.str)) → ws.length = m → (∀ x ∈ ws, Wd x) → (m ≤ 26 → ws.Nodup) → Q (.ref p) H'
theorem ok_names {f fD : Addr} {fd fdD : FuncData} {k : Nat} (F : Fun K "_law_names" "_law_names" sNames f fd) (FD : Fun K "_law_draw" "_law_draw" sDraw fD fdD) (bD : Binds K fdD ["_law_tape_here", "_law_many"] []) (gD : mg "_law_draw" = some (.ref fD))
    (ml : mg "len" = none) (mr : mg "range" = none) (mi : mg "int" = none) : FnOk P w K mg base CX0 (k + 2) f fd ["_law_tape_here", "_law_many"] spNames := by
  have GD : FnOk P w K mg base CX0 (k + 1) fD fdD ["_law_tape_here", "_law_many"] spDraw := ok_draw FD
  refine F.ok scNames (fun vs H Q E h => ?_) (fun cdv A outer s H vs Q E hr h => ?_)
  · obtain ⟨t, m, n, rfl, _⟩ := h
    rfl
  · obtain ⟨t, m, n, rfl, hm, hT, hn, q⟩ := h
    refine ⟨_, pss_cons (ps_asg (pe_tup (pa_cons pe_str (pa_cons (pe_call GD hr (by rfl) gD FD.kp bD .nil pass0 (pa_cons (pv 0) (pa_cons pe_int pa_nil))) pa_nil))) (pg_tup rfl (pgs_cons (pg_name (i := 2) scNames.nd rfl (.inr rfl)) (pgs_cons (pg_name (i := 3) scNames.nd rfl (.inl rfl)) pgs_nil))))
      (pss_cons (ps_set (i := 5) scNames.nd rfl (.inl rfl) (pe_join pe_str (pe_lc (own := [("_law_k", 4)]) (g := gName 4) (tt := tYes) rfl scNames.nd (pi_range1 rfl mr (pa_cons (pe_call GD hr (by rfl) gD FD.kp bD .nil pass0 (pa_cons (pv 0) (pa_cons pe_int pa_nil))) pa_nil)) (blkOk_by (N := nNames) (sc := defScope sNames) (by decide +kernel))
          (fun _ _ _ _ _ => pg_name (i := 4) scNames.nd rfl (.inl rfl)) (fun _ _ _ _ _ => pts_nil) (fun _ _ _ _ _ => pe_ix ix_str (pv 2) (pe_call GD hr (by rfl) gD FD.kp bD .nil pass0 (pa_cons (pv 0) (pa_cons pe_int pa_nil))) (fun _ _ => rfl)))))
      (pss_cons (ps_par3 (i := 6) (j := 7) (l := 8) rfl scNames.nd rfl rfl rfl (by decide) (by decide) (by decide) rfl rfl rfl (pa_cons (pe_call GD hr (by rfl) gD FD.kp bD .nil pass0 (pa_cons (pv 0) (pa_cons (pe_op op_add (pe_callB call_len_str (by rfl) ml PySem.boot_len (pa_cons (pv 5) pa_nil)) pe_int) pa_nil)))
          (pa_cons (pe_ix ix_list (pe_lst (pa_cons pe_int (pa_cons pe_int (pa_cons pe_int pa_nil)))) (pe_call GD hr (by rfl) gD FD.kp bD .nil pass0 (pa_cons (pv 0) (pa_cons pe_int pa_nil))) (fun _ _ => rfl)) (pa_cons (pe_lst pa_nil) pa_nil))) rfl)
      (pss_cons (ps_par (i := 9) (j := 10) rfl scNames.nd rfl rfl (by decide) rfl rfl (pa_cons (pe_slice sl_str (pv 5) po_none (po_some (pv 6))) (pa_cons (pe_slice sl_str (pv 5) (po_some (pv 6)) po_none) pa_nil)) rfl)
      (pss_cons (ps_for PassesOwn.never rfl (pi_range1 rfl mr (pa_cons (pv 1) pa_nil)) (pg_name (i := 4) scNames.nd rfl (.inl rfl))
        (pss_cons (ps_set (i := 11) scNames.nd rfl (.inl rfl) (pe_op op_mul (pe_op op_mod (pe_op op_add (pe_op op_add (pv 3) (pv 6)) (pe_callB call_len_str (by rfl) ml PySem.boot_len (pa_cons (pv 5) pa_nil))) pe_int) (pe_callTy call_int1 (by rfl) mi (by decide +kernel) (pa_cons (pe_cmpR op_ne (pv 10) pe_str (nomark _)) pa_nil))))
        (pss_cons (ps_set (i := 12) scNames.nd rfl (.inl rfl) (pe_ix ix_str (pv 2) (pe_op op_mod (pe_op op_add (pv 3) (pe_op op_mul (pv 7) (pe_ix ix_list (pe_lst (pa_cons (pv 4) (pa_cons (pe_op op_fdiv (pv 4) pe_int) (pa_cons (pv 4) pa_nil)))) (pv 11) (fun _ _ => rfl)))) pe_int) (fun _ _ => rfl)))
        (pss_one (ps_expr (pe_bm PySem.F.plainAttrs_list PySem.F.slot_list_append PySem.F.type_list_append mt_append (pv 8) (pa_cons (pe_op op_add_str (pe_op op_add_str (pv 9) (pv 12)) (pe_ix ix_list (pe_lst (pa_cons (pv 10) (pa_cons (pe_op op_repS (pv 10) (pe_op op_mod (pv 4) pe_int)) (pa_cons (pe_slice sl_str (pv 10) po_none (po_some (pe_op op_mod (pv 4) (pe_op op_add (pe_callB call_len_str (by rfl) ml PySem.boot_len (pa_cons (pv 10) pa_nil)) pe_int)))) pa_nil)))) (pv 11) (fun _ _ => rfl))) pa_nil)))))))
      (pss_one (ps_ret (pv 8))))))), ?_⟩
    have nt : ∀ {G : Hp} {j : Nat} {a : Addr}, TapeAt G t j → G a = none → a ≠ t := fun h e => h.ne_none e
    -- letters, shift
    refine ⟨.ref t, rfl, t, 26, n, rfl, by decide, by decide, hT, by omega, fun sh H1 x1 T1 hs0 hs1 => ⟨by show 2 ≤ sizeLine; decide, fun tp ntp => ?_⟩⟩
    have T1' : TapeAt (upd H1 tp (.tup [.str abc, .int sh])) t (n + 1) := T1.upd (nt T1 ntp)
    have x1' : Ex t H (upd H1 tp (.tup [.str abc, .int sh])) := x1.trans (Same.ex (same_upd ntp))
    refine ⟨tp, _, rfl, SqT.of upd_same, rfl, _, _, rfl, _, _, rfl, rfl, ?_⟩
    -- stem
    refine ⟨⟨_, rfl⟩, .ref t, rfl, t, 8, n + 1, rfl, by decide, by decide, T1', by omega, fun r H2 x2 T2 hr0 hr1 => ⟨r, rfl, by omega, by omega, fun D nD => ?_⟩⟩
    refine lc_it (walk_range (lo := 0) (n := r.toNat)) (fun i H3 => ∃ cs : List Str, Ex t H H3 ∧ TapeAt H3 t (n + 2 + i) ∧ H3 D = some (.lst (cs.map V.str)) ∧ cs.length = i ∧ (cs.map (·.length)).sum = i ∧ ∀ x ∈ cs, Low x) ?_ (fun _ _ _ _ => trivial) ?_ ?_
    · exact ⟨[], (x1'.trans x2).trans (Same.ex (same_upd nD)), T2.upd (nt T2 nD), upd_same, rfl, rfl, fun x hx => by cases hx⟩
    · rintro i x H3 H4 hi ⟨cs, x3, T3, e3, l3, u3, w3⟩ ⟨rfl, rfl⟩
      refine ⟨rfl, .str abc, rfl, .ref t, rfl, t, 26, n + 2 + i, rfl, by decide, by decide, T3, by omega, fun r2 H5 x5 T5 h50 h51 => ?_⟩
      obtain ⟨c, hc, lowc, _⟩ := letter h50 h51
      have hDt : D ≠ t := nt T2 nD
      have e5 := x5 D _ hDt e3
      refine ⟨abc, r2, c, rfl, rfl, (by decide +kernel), hc, _, e5, ?_, cs ++ [⟨#[c]⟩], ?_, ?_, ?_, ?_, ?_, ?_⟩
      · rw [List.length_map, l3]
        exact small1000 (by omega)
      · intro a o ha ho
        have hD : a ≠ D := by
          intro ea
          subst ea
          rw [x2.free ha nD |> x1'.free ha] at ho
          cases ho
        rw [upd_ne hD]
        exact x5 _ _ ha (x3 _ _ ha ho)
      · have := T5.upd (o := .lst (cs.map V.str ++ [.str ⟨#[c]⟩])) hDt
        exact this.mono (by omega)
      · rw [upd_same, List.map_append]
        rfl
      · rw [List.length_append, l3]
        rfl
      · rw [List.map_append, List.sum_append, u3]
        rfl
      · intro x hx
        rcases List.mem_append.mp hx with hx | hx
        · exact w3 x hx
        · rw [List.mem_singleton.mp hx]
          exact lowc
    · rintro H3 ⟨cs, x3, T3, e3, l3, u3, w3⟩
      refine ⟨Str.ofString "", D, cs, rfl, rfl, .inl (SqL.of e3), ?_, ?_⟩
      · rw [u3, l3, show (Str.ofString "").length = 0 by decide +kernel]
        omega
      have hlen : (Txt.join (Str.ofString "") cs).length ≤ 7 := by
        rw [show Txt.join (Str.ofString "") cs = Str.join (Str.ofString "") cs from StrLaws.glued_eq_join _ _]
        have := StrLaws.join_length_le (Str.ofString "") cs
        rw [u3, show (Str.ofString "").length = 0 by decide +kernel] at this
        omega
      have hlow : Low (Txt.join (Str.ofString "") cs) := by
        rw [show Txt.join (Str.ofString "") cs = Str.join (Str.ofString "") cs from StrLaws.glued_eq_join _ _]
        exact Low.join cs w3
      generalize Txt.join (Str.ofString "") cs = stem at hlen hlow ⊢
      -- at, step, found
      refine ⟨.ref t, rfl, .str stem, rfl, stem, rfl, sz _ (by omega), _, 1, rfl, rfl, t, _, n + 2 + r.toNat, rfl, by omega, by omega, T3, by omega, fun at_ H4 x4 T4 h40 h41 => ?_⟩
      refine ⟨by show 3 ≤ sizeLine; decide, fun l nl => ?_⟩
      have nlt := nt T4 nl
      refine ⟨.ref t, rfl, t, 3, n + 2 + r.toNat + 1, rfl, by decide, by decide, T4.upd nlt, by omega, fun r3 H5 x5 T5 h50 h51 => ?_⟩
      obtain ⟨stv, hst, hst2⟩ := three h50 h51 (V.int 1) (.int 7) (.int 25)
      obtain ⟨st, rfl, hst0, hst1, hst3⟩ : ∃ st : Int, stv = .int st ∧ 0 ≤ st ∧ st ≤ 25 ∧ (st = 1 ∨ st = 7 ∨ st = 25) := by
        rcases hst2 with rfl | rfl | rfl
        · exact ⟨1, rfl, by decide, by decide, .inl rfl⟩
        · exact ⟨7, rfl, by decide, by decide, .inr (.inl rfl)⟩
        · exact ⟨25, rfl, by decide, by decide, .inr (.inr rfl)⟩
      refine ⟨l, _, r3, .int st, rfl, rfl, SqL.of (x5 l _ nlt upd_same), hst, ?_⟩
      refine ⟨Nat.zero_le _, fun p np => ⟨_, _, _, rfl, ?_⟩⟩
      have npt := nt T5 np
      have T6 : TapeAt (upd H5 p (.lst [])) t (n + 12) := (T5.upd npt).mono (by omega)
      have x6 : Ex t H (upd H5 p (.lst [])) := ((x3.trans x4).trans (Same.ex (same_upd nl))).trans (x5.trans (Same.ex (same_upd np)))
      have hpH : H p = none := ((x3.trans x4).trans (Same.ex (same_upd nl))).trans x5 |>.free npt np
      -- head, tail
      refine ⟨.str stem, rfl, .int at_, rfl, at_, rfl, stem, rfl, sz _ (by omega), .str stem, rfl, .int at_, rfl, at_, rfl, stem, rfl, sz _ (by omega), _, _, rfl, ?_⟩
      have lh : (cutS stem none (some at_)).length ≤ 7 := Nat.le_trans (cutS_length _ _ _) hlen
      have lt : (cutS stem (some at_) none).length ≤ 7 := Nat.le_trans (cutS_length _ _ _) hlen
      have wh : Low (cutS stem none (some at_)) := hlow.cut _ _
      have wt : Low (cutS stem (some at_) none) := hlow.cut _ _
      generalize cutS stem none (some at_) = hd at lh wh ⊢
      generalize cutS stem (some at_) none = tl at lt wt ⊢
      obtain ⟨wy, hwy, hw0, hw1, hwe⟩ : ∃ wy : Int, (sh + at_ + (stem.length : Int)) % 3 * (if (!decide (V.str tl = V.str (Str.ofString ""))) = true then (1 : Int) else 0) = wy ∧ 0 ≤ wy ∧ wy < 3 ∧ (wy = 1 → tl ≠ Str.empty) := by
        have hw3 := mod_lt (i := sh + at_ + (stem.length : Int)) (j := 3) (by decide)
        refine ⟨_, rfl, ?_⟩
        split
        · rename_i hz
          rw [Int.mul_one]
          refine ⟨hw3.1, hw3.2, fun _ e => ?_⟩
          rw [e] at hz
          revert hz
          decide +kernel
        · rw [Int.mul_zero]
          exact ⟨by decide, by decide, fun z => by cases z⟩
      -- the loop
      refine ⟨.int (m : Int), rfl, (m : Int), rfl, by omega, by omega, ?_⟩
      refine for_it (walk_range (lo := 0) (n := (m : Int).toNat)) (fun i σ H7 => ∃ (y4 y11 y12 : Option V) (ws : List Str), σ = [some (.ref t), some (.int (m : Int)), some (.str abc), some (.int sh), y4, some (.str stem), some (.int at_), some (.int st), some (.ref p), some (.str hd), some (.str tl), y11, y12] ∧ Ex t H H7 ∧ TapeAt H7 t (n + 12) ∧ H7 p = some (.lst (ws.map V.str)) ∧ ws.length = i ∧ (∀ x ∈ ws, Wd x) ∧ Frm hd tl sh st wy ws) ?_ (fun _ _ _ _ _ => trivial) ?_ ?_
      · exact ⟨none, none, none, [], rfl, x6, T6, upd_same, rfl, (fun x hx => by cases hx), fun j x hx => by simp at hx⟩
      · rintro i x σ H8 H7 hi ⟨y4, y11, y12, ws, rfl, x7, T7, e7, l7, b7, fr7⟩ ⟨rfl, rfl⟩
        rw [Int.toNat_natCast] at hi
        -- way
        refine ⟨.int sh, rfl, .int at_, rfl, _, _, rfl, rfl, .str stem, rfl, stem, rfl, sz _ (by omega), _, _, rfl, rfl, _, 3, rfl, rfl, (by decide : (0 : Int) < 3), .str tl, rfl, rfl, .inr ⟨_, rfl, _, _, rfl, rfl, .inr (b01 _), ?_⟩⟩
        dsimp only
        rw [hwy]
        -- sign
        have ik : ((0 : Int) + (i : Nat)) / 2 ≤ i := by omega
        have hkv := threeE hw0 hw1 (V.int (0 + (i : Nat))) (V.int ((0 + (i : Nat)) / 2)) (V.int (0 + (i : Nat)))
        obtain ⟨kk, hkk, hk0, hk1, hks⟩ : ∃ kk : Int, (if wy = 0 then V.int (0 + (i : Nat)) else if wy = 1 then V.int ((0 + (i : Nat)) / 2) else V.int (0 + (i : Nat))) = .int kk ∧ 0 ≤ kk ∧ kk ≤ 100 ∧ kk = selM wy i := by
          have : wy = 0 ∨ wy = 1 ∨ wy = 2 := by omega
          rcases this with rfl | rfl | rfl
          · exact ⟨0 + (i : Nat), rfl, by omega, by omega, by show _ = (i : Int); omega⟩
          · exact ⟨(0 + (i : Nat)) / 2, rfl, by omega, by omega, by show _ = ((i / 2 : Nat) : Int); omega⟩
          · exact ⟨0 + (i : Nat), rfl, by omega, by omega, by show _ = (i : Int); omega⟩
        rw [hkk] at hkv
        have hs26 := mod_lt (i := sh + st * kk) (j := 26) (by decide)
        obtain ⟨c, hc, lowc, codec⟩ := letter hs26.1 hs26.2
        refine ⟨.str abc, rfl, .int sh, rfl, .int st, rfl, .int (0 + (i : Nat)), rfl, .int (0 + (i : Nat)), rfl, _, 2, rfl, rfl, ⟨by decide, by decide⟩, .int (0 + (i : Nat)), rfl, by show 3 ≤ sizeLine; decide, fun l1 nl1 => ?_⟩
        have nl1t := nt T7 nl1
        have T8 := T7.upd (o := .lst [.int (0 + (i : Nat)), .int ((0 + (i : Nat)) / 2), .int (0 + (i : Nat))]) nl1t
        have sm8 : Same H7 (upd H7 l1 (.lst [.int (0 + (i : Nat)), .int ((0 + (i : Nat)) / 2), .int (0 + (i : Nat))])) := same_upd nl1
        refine ⟨.int wy, rfl, l1, _, wy, .int kk, rfl, rfl, SqL.of upd_same, hkv, st, kk, rfl, rfl, .inl ⟨by omega, by omega⟩, sh, _, rfl, rfl, _, 26, rfl, rfl, (by decide : (0 : Int) < 26), abc, _, c, rfl, rfl, (by decide +kernel), hc, ?_⟩
        -- append
        have lsg : (⟨#[c]⟩ : Str).length = 1 := rfl
        have lh1 : (hd ++ (⟨#[c]⟩ : Str)).length ≤ 8 := by rw [Str.length_append]; omega
        refine ⟨.ref p, rfl, .inl ⟨rfl, _, SqL.of (sm8 _ _ e7)⟩, .str hd, rfl, .str ⟨#[c]⟩, rfl, hd, _, rfl, rfl, sz _ (by omega), .str tl, rfl, .str tl, rfl, .int (0 + (i : Nat)), rfl, _, 2, rfl, rfl, (by decide : (0 : Int) < 2), tl, _, rfl, rfl, (by omega), ?_⟩
        have lr := rep_len tl ((0 + (i : Nat)) % 2)
        have wr : Low (if ((0 : Int) + (i : Nat)) % 2 = 0 then Str.empty else tl) := wt.rep _
        generalize htr : (if ((0 : Int) + (i : Nat)) % 2 = 0 then Str.empty else tl) = tr at lr wr ⊢
        have hkp := mod_lt (i := (0 : Int) + (i : Nat)) (j := (tl.length : Int) + 1) (by omega)
        refine ⟨.str tl, rfl, .int (0 + (i : Nat)), rfl, .str tl, rfl, tl, rfl, sz _ (by omega), _, 1, rfl, rfl, _, _, rfl, rfl, (by omega), _, rfl, tl, rfl, sz _ (by omega), by show 3 ≤ sizeLine; decide, fun l2 nl2 => ?_⟩
        have lc := cutS_length tl none (some ((0 + (i : Nat)) % ((tl.length : Int) + 1)))
        have wc : Low (cutS tl none (some ((0 + (i : Nat)) % ((tl.length : Int) + 1)))) := wt.cut _ _
        generalize hcc : cutS tl none (some ((0 + (i : Nat)) % ((tl.length : Int) + 1))) = tc at lc wc
        have nl2t := nt T8 nl2
        have htv := threeE hw0 hw1 (V.str tl) (.str tr) (.str tc)
        obtain ⟨tt, htt, htl, wtt, htw⟩ : ∃ tt : Str, (if wy = 0 then V.str tl else if wy = 1 then V.str tr else V.str tc) = .str tt ∧ tt.length ≤ 7 ∧ Low tt ∧ (wy = 1 → tt = tr) := by
          have : wy = 0 ∨ wy = 1 ∨ wy = 2 := by omega
          rcases this with rfl | rfl | rfl
          · exact ⟨tl, rfl, lt, wt, fun z => by cases z⟩
          · exact ⟨tr, rfl, by omega, wr, fun _ => rfl⟩
          · exact ⟨tc, rfl, by omega, wc, fun z => by cases z⟩
        rw [htt] at htv
        have sm9 := Same.trans sm8 (same_upd (o := .lst [.str tl, .str tr, .str tc]) nl2)
        refine ⟨.int wy, rfl, l2, [.str tl, .str tr, .str tc], wy, .str tt, rfl, rfl, SqL.of upd_same, htv, _, tt, rfl, rfl, sz _ (by omega), p, _, _, rfl, rfl, sm9 _ _ e7, ?_, ?_⟩
        · rw [List.length_map, l7]
          exact small1000 (by omega)
        refine ⟨some (.int (0 + (i : Nat))), some (.int wy), some (.str ⟨#[c]⟩), ws ++ [hd ++ ⟨#[c]⟩ ++ tt], rfl, ?_, ?_, ?_, ?_, ?_, ?_⟩
        · intro a o ha ho
          have hp : a ≠ p := by
            intro ea
            subst ea
            rw [hpH] at ho
            cases ho
          rw [upd_ne hp]
          exact sm9 _ _ (x7 _ _ ha ho)
        · exact (T7.same sm9).upd npt
        · rw [upd_same, List.map_append]
          rfl
        · rw [List.length_append, l7]
          rfl
        · intro x hx
          rcases List.mem_append.mp hx with hx | hx
          · exact b7 x hx
          · rw [List.mem_singleton.mp hx]
            exact ⟨by rw [Str.length_append]; omega, (wh.append lowc).append wtt⟩
        · intro j x hx
          by_cases hj : j < ws.length
          · rw [List.getElem?_append_left hj] at hx
            exact fr7 j x hx
          · rw [List.getElem?_append_right (by omega)] at hx
            have hj0 : j - ws.length = 0 := by
              cases q : j - ws.length with
              | zero => rfl
              | succ q' => rw [q] at hx; simp at hx
            rw [hj0] at hx
            have hx : some (hd ++ ⟨#[c]⟩ ++ tt) = some x := hx
            cases hx
            have hji : j = i := by omega
            subst hji
            refine ⟨c, tt, rfl, by rw [codec, hks], fun w1 => ?_⟩
            rw [htw w1, ← htr]
            by_cases z : j % 2 = 0
            · rw [if_pos z, if_pos (by omega)]
            · rw [if_neg z, if_neg (by omega)]
      · rintro σ H7 ⟨y4, y11, y12, ws, rfl, x7, T7, e7, l7, b7, fr7⟩
        rw [Int.toNat_natCast] at l7
        exact ⟨.ref p, rfl, q _ _ ws x7 T7 hpH e7 l7 b7 fun hm26 => fr7.nodup hst3 (by omega) hwe⟩
end
end Sg

namespace Sg
open PySem PySem.Spec PyProof.Rows L2
abbrev sSame : Stmt := topS 11
abbrev nSame : List Str := ["_law_found", "_law_due", "_law_one", "_law_other"]
theorem scSame : FnScope nSame ["_law_found", "_law_due"] (defScope sSame) := ⟨rfl, rfl, rfl, by decide +kernel, rfl, by decide +kernel, by decide +kernel⟩
theorem walk_zipT {K : PySem.W.Frag} {a b : Addr} {xs ys : List V} {n : Nat} (hn : n = min xs.length ys.length) : Walk (RZ.ItzT K a b) n (fun H => SqT K H a xs ∧ SqT K H b ys) (YPair (fun i => xs[i]?) (fun i => ys[i]?)) := by
  subst hn
  refine ⟨fun i _ hi q => ?_, fun _ q => ⟨xs, ys, q.1, q.2, by omega⟩, fun i H v H' _ q y => ?_⟩
  · have h1 : i < xs.length := by omega
    have h2 : i < ys.length := by omega
    exact ⟨xs, ys, xs[i], ys[i], q.1, q.2, by simp [h1], by simp [h2]⟩
  · obtain ⟨T, x, z, h1, h2, h3, h4, h5⟩ := y
    exact ⟨T, x, z, h1, h2, h3, h4 xs q.1, h5 ys q.2⟩
def tyD : PyData → String
  | .none => "NoneType"
  | .bool _ => "bool"
  | .int _ => "int"
  | .str _ => "str"
  | .list _ => "list"
  | .tuple _ => "tuple"
  | .dict _ => "dict"
theorem Rp.ty {K : PySem.W.Frag} {H : Hp} {v : V} {d : PyData} (h : Rp H v d) : TyX K H v (.type (tyD d)) := by
  cases h with
  | non => exact .base .non
  | bl b => exact .base (.bl b)
  | int i => exact .base (.int i)
  | str x => exact .base (.str x)
  | lst h _ => exact .base (.lst h)
  | tup h _ => exact .base (.tup h)
def Fit : Nat → PyData → Prop
  | n + 1, .list ds => ds.length ≤ 1000 ∧ ∀ d ∈ ds, Fit n d
  | n + 1, .tuple ds => ds.length ≤ 1000 ∧ ∀ d ∈ ds, Fit n d
  | 0, .list _ => False
  | 0, .tuple _ => False
  | _, .dict _ => False
  | _, _ => True
def spSame : Nat → Sp
  | 0 => fun _ _ _ _ => False
  | n + 1 => fun vs H Q _ => ∃ (u v : V) (d : PyData), vs = [u, v] ∧ Rp H u d ∧ Rp H v d ∧ Fit n d ∧ ∀ H', Same H H' → Q (.bl true) H'
theorem kitA {K : PySem.W.Frag} {t a b : String} {x y : Bool} (hx : kitB t a = some x) (hy : kitB t b = some y) : PySem.W.kitAny K (.type t) [.type a, .type b] = some (x || y) := by
  refine kitAny_cons (b := x) (kit_ty hx) (fun e => kitAny_cons (b := y) (kit_ty hy) (fun e2 => ?_) (fun e2 => ?_)) (fun e => ?_)
  · rw [e, e2]; exact kitAny_nil
  · rw [e2, Bool.or_true]
  · rw [e, Bool.true_or]
section
variable {P : Program} {w : World} {K : PySem.W.Frag} {mg : Str → Option Value} {base : Heap}
theorem all_true (n : Nat) : (List.replicate n true).all id = true := by
  rw [List.all_eq_true]
  intro x hx
  rw [List.eq_of_mem_replicate hx]
  rfl
theorem ok_same {f : Addr} {fd : FuncData} (F : Fun K "_law_same" "_law_same" sSame f fd) (b : Binds K fd ["_law_found", "_law_due"] []) (g : mg "_law_same" = some (.ref f))
    (mis : mg "isinstance" = none) (mls : mg "list" = none) (mt : mg "tuple" = none) (ml : mg "len" = none) (ma : mg "all" = none) (mz : mg "zip" = none) (mst : mg "str" = none) (mb : mg "bool" = none) (mi : mg "int" = none) :
    ∀ n, FnOk P w K mg base CX0 n f fd ["_law_found", "_law_due"] (spSame n) := by
  intro n
  induction n with
  | zero => exact ⟨fun _ _ _ _ h => h.elim, fun _ _ _ _ _ _ _ _ _ _ _ _ _ h => h.elim⟩
  | succ n ih =>
    refine F.ok scSame (fun vs H Q E h => ?_) (fun cdv A outer s H vs Q E hr h => ?_)
    · obtain ⟨u, v, d, rfl, _⟩ := h
      rfl
    · obtain ⟨u, v, d, rfl, hu, hv, hfit, q⟩ := h
      refine ⟨_, pss_cons (ps_if (pt_val (pe_callB call_isiT (by rfl) mis (by decide +kernel) (pa_cons (pv 1) (pa_cons (pe_tup (pa_cons (pe_bltn (v := .ty "list") (by rfl) mls (by decide +kernel) rfl) (pa_cons (pe_bltn (v := .ty "tuple") (by rfl) mt (by decide +kernel) rfl) pa_nil))) pa_nil))))
          (pss_cons (ps_if (PW.pt (pw_or (pt_cmpR op_ne (pe_callB call_isi (by rfl) mis (by decide +kernel) (pa_cons (pv 0) (pa_cons (pe_bltn (v := .ty "list") (by rfl) mls (by decide +kernel) rfl) pa_nil))) (pe_callB call_isi (by rfl) mis (by decide +kernel) (pa_cons (pv 1) (pa_cons (pe_bltn (v := .ty "list") (by rfl) mls (by decide +kernel) rfl) pa_nil))) (nomark _))
              (pw_or1 (pt_cmpR op_ne (pe_callB call_isi (by rfl) mis (by decide +kernel) (pa_cons (pv 0) (pa_cons (pe_bltn (v := .ty "tuple") (by rfl) mt (by decide +kernel) rfl) pa_nil))) (pe_callB call_isi (by rfl) mis (by decide +kernel) (pa_cons (pv 1) (pa_cons (pe_bltn (v := .ty "tuple") (by rfl) mt (by decide +kernel) rfl) pa_nil))) (nomark _)))))
            (pss_one (ps_ret pe_bl)) pss_nil)
          (pss_one (ps_ret (pe_and (pe_cmpR op_eq (pe_callB call_len_seq (by rfl) ml PySem.boot_len (pa_cons (pv 0) pa_nil)) (pe_callB call_len_seq (by rfl) ml PySem.boot_len (pa_cons (pv 1) pa_nil)) (nomark _))
            (pe_one (pe_callB (cr_all rfl) (by rfl) ma (by decide +kernel) (pa_cons (pe_lc (own := [("_law_one", 2), ("_law_other", 3)]) (g := gTup K 2 (gCons (gName 2) (gCons (gName 3) gNil))) (tt := tYes) (te := tCall (spSame n) [] E0 (tCons (tVar 2) (tCons (tVar 3) tNil))) rfl scSame.nd
              (RZ.pi_zipA (by rfl) mz (pa_cons (pv 0) (pa_cons (pv 1) pa_nil))) (blkOk_by (N := nSame) (sc := defScope sSame) (by decide +kernel))
              (fun _ _ _ _ _ => pg_tup rfl (pgs_cons (pg_name (i := 2) scSame.nd rfl (.inl rfl)) (pgs_cons (pg_name (i := 3) scSame.nd rfl (.inl rfl)) pgs_nil))) (fun _ _ _ _ _ => pts_nil)
              (fun _ _ _ _ _ => pe_call ih hr (by rfl) g F.kp b .nil pass0 (pa_cons (pv 2) (pa_cons (pv 3) pa_nil)))) pa_nil))))))) pss_nil)
        (pss_cons (ps_if (PW.pt (pw_or (pt_cmpR op_isN (pv 1) pe_non (nomark _)) (pw_or1 (pt_val (pe_callB call_isiT (by rfl) mis (by decide +kernel) (pa_cons (pv 1) (pa_cons (pe_tup (pa_cons (pe_bltn (v := .ty "str") (by rfl) mst (by decide +kernel) rfl) (pa_cons (pe_bltn (v := .ty "bool") (by rfl) mb (by decide +kernel) rfl) pa_nil))) pa_nil)))))))
          (pss_one (ps_ret (pe_and (pe_cmpR op_eq (pe_callB call_isi (by rfl) mis (by decide +kernel) (pa_cons (pv 0) (pa_cons (pe_bltn (v := .ty "bool") (by rfl) mb (by decide +kernel) rfl) pa_nil))) (pe_callB call_isi (by rfl) mis (by decide +kernel) (pa_cons (pv 1) (pa_cons (pe_bltn (v := .ty "bool") (by rfl) mb (by decide +kernel) rfl) pa_nil))) (nomark _)) (pe_one (pe_cmpR op_eq (pv 0) (pv 1) (nomark _)))))) pss_nil)
        (pss_one (ps_ret (pe_and (pe_callB call_isi (by rfl) mis (by decide +kernel) (pa_cons (pv 0) (pa_cons (pe_bltn (v := .ty "int") (by rfl) mi (by decide +kernel) rfl) pa_nil))) (pe_and (pe_not (pe_callB call_isi (by rfl) mis (by decide +kernel) (pa_cons (pv 0) (pa_cons (pe_bltn (v := .ty "bool") (by rfl) mb (by decide +kernel) rfl) pa_nil)))) (pe_one (pe_cmpR op_eq (pv 0) (pv 1) (nomark _)))))))), ?_⟩
      refine ⟨v, rfl, by show 2 ≤ sizeLine; decide, fun T nT => ?_⟩
      have s1 : Same H (upd H T (.tup [.ty "list", .ty "tuple"])) := same_upd nT
      have hu1 := hu.same s1
      have hv1 := hv.same s1
      have htT := (upd_same : upd H T (.tup [.ty "list", .ty "tuple"]) T = some (.tup [.ty "list", .ty "tuple"]))
      generalize upd H T (.tup [.ty "list", .ty "tuple"]) = H1 at *
      cases hu1 with
      | lst ha hs =>
        rename_i a xs ds
        cases hv1 with
        | lst hb ht =>
          rename_i b' ys
          obtain ⟨n', rfl⟩ : ∃ n', n = n' + 1 := by
            cases n with
            | zero => exact hfit.elim
            | succ n' => exact ⟨n', rfl⟩
          have hl1 := hs.length
          have hl2 := ht.length
          have hf1 : ds.length ≤ 1000 := hfit.1
          refine ⟨_, T, _, .type "list", _, _, rfl, htT, .cons (.ty _) (.cons (.ty _) .nil), .base (.lst hb), kitA (x := true) (y := false) (by decide +kernel) (by decide +kernel), _, rfl, ?_⟩
          refine ⟨.ref a, rfl, _, _, .type "list", _, true, rfl, .ty _, .base (.lst ha), kit_ty (by decide +kernel), .ref b', rfl, _, _, .type "list", _, true, rfl, .ty _, .base (.lst hb), kit_ty (by decide +kernel), rfl, _, rfl, iteNS rfl ?_⟩
          refine ⟨.ref a, rfl, _, _, .type "list", _, false, rfl, .ty _, .base (.lst ha), kit_ty (by decide +kernel), .ref b', rfl, _, _, .type "list", _, false, rfl, .ty _, .base (.lst hb), kit_ty (by decide +kernel), rfl, _, rfl, iteNS rfl ?_⟩
          refine ⟨.ref a, rfl, a, xs, rfl, .inl (SqL.of ha), .ref b', rfl, b', ys, rfl, .inl (SqL.of hb), rfl, _, rfl, ?_⟩
          rw [show decide (V.int (xs.length : Int) = V.int (ys.length : Int)) = true from decide_eq_true (by rw [hl1, hl2])]
          refine ⟨.ref a, rfl, .ref b', rfl, a, b', xs, ys, rfl, .inl ⟨SqL.of ha, SqL.of hb, fun D nD => ?_⟩⟩
          refine lc_it (walk_zip (xs := xs) (ys := ys) rfl) (fun i H3 => Same H1 H3 ∧ H3 D = some (.lst ((List.replicate i true).map V.bl))) ⟨same_upd nD, upd_same⟩ (fun i H3 _ h3 => ⟨SqL.of (h3.1 _ _ ha), SqL.of (h3.1 _ _ hb)⟩) ?_ ?_
          · rintro i x H3 H4 hi ⟨s3, d3⟩ ⟨T2, x1, x2, rfl, nT2, rfl, f1, f2⟩
            obtain ⟨d1, hd1, r1⟩ := hs.get f1
            obtain ⟨d2, hd2, r2⟩ := ht.get f2
            rw [hd1] at hd2
            cases hd2
            have sT : Same H3 (upd H3 T2 (.tup [x1, x2])) := same_upd nT2
            refine ⟨T2, _, rfl, SqT.of upd_same, rfl, _, _, rfl, _, _, rfl, rfl, rfl, x1, rfl, x2, rfl, x1, x2, d1, rfl, r1.same (Same.trans s3 sT), r2.same (Same.trans s3 sT), hfit.2 d1 (List.mem_of_getElem? hd1), fun H5 s5 => ?_⟩
            have d5 := s5 _ _ (sT _ _ d3)
            refine ⟨_, d5, ?_, fun c o e => ?_, ?_⟩
            · rw [List.length_map, List.length_replicate]
              exact small1000 (by omega)
            · rw [upd_ne (fun z => by subst z; rw [nD] at e; cases e)]
              exact s5 _ _ (sT _ _ (s3 _ _ e))
            · rw [upd_same, List.replicate_succ', List.map_append]
              rfl
          · rintro H3 ⟨s3, d3⟩
            refine ⟨D, _, rfl, SqL.of d3, ?_⟩
            rw [all_true]
            exact q _ (Same.trans s1 s3)
      | tup ha hs =>
        rename_i a xs ds
        cases hv1 with
        | tup hb ht =>
          rename_i b' ys
          obtain ⟨n', rfl⟩ : ∃ n', n = n' + 1 := by
            cases n with
            | zero => exact hfit.elim
            | succ n' => exact ⟨n', rfl⟩
          have hl1 := hs.length
          have hl2 := ht.length
          have hf1 : ds.length ≤ 1000 := hfit.1
          refine ⟨_, T, _, .type "tuple", _, _, rfl, htT, .cons (.ty _) (.cons (.ty _) .nil), .base (.tup hb), kitA (x := false) (y := true) (by decide +kernel) (by decide +kernel), _, rfl, ?_⟩
          refine ⟨.ref a, rfl, _, _, .type "tuple", _, false, rfl, .ty _, .base (.tup ha), kit_ty (by decide +kernel), .ref b', rfl, _, _, .type "tuple", _, false, rfl, .ty _, .base (.tup hb), kit_ty (by decide +kernel), rfl, _, rfl, iteNS rfl ?_⟩
          refine ⟨.ref a, rfl, _, _, .type "tuple", _, true, rfl, .ty _, .base (.tup ha), kit_ty (by decide +kernel), .ref b', rfl, _, _, .type "tuple", _, true, rfl, .ty _, .base (.tup hb), kit_ty (by decide +kernel), rfl, _, rfl, iteNS rfl ?_⟩
          refine ⟨.ref a, rfl, a, xs, rfl, .inr (SqT.of ha), .ref b', rfl, b', ys, rfl, .inr (SqT.of hb), rfl, _, rfl, ?_⟩
          rw [show decide (V.int (xs.length : Int) = V.int (ys.length : Int)) = true from decide_eq_true (by rw [hl1, hl2])]
          refine ⟨.ref a, rfl, .ref b', rfl, a, b', xs, ys, rfl, .inr ⟨SqT.of ha, SqT.of hb, fun D nD => ?_⟩⟩
          refine lc_it (walk_zipT (xs := xs) (ys := ys) rfl) (fun i H3 => Same H1 H3 ∧ H3 D = some (.lst ((List.replicate i true).map V.bl))) ⟨same_upd nD, upd_same⟩ (fun i H3 _ h3 => ⟨SqT.of (h3.1 _ _ ha), SqT.of (h3.1 _ _ hb)⟩) ?_ ?_
          · rintro i x H3 H4 hi ⟨s3, d3⟩ ⟨T2, x1, x2, rfl, nT2, rfl, f1, f2⟩
            obtain ⟨d1, hd1, r1⟩ := hs.get f1
            obtain ⟨d2, hd2, r2⟩ := ht.get f2
            rw [hd1] at hd2
            cases hd2
            have sT : Same H3 (upd H3 T2 (.tup [x1, x2])) := same_upd nT2
            refine ⟨T2, _, rfl, SqT.of upd_same, rfl, _, _, rfl, _, _, rfl, rfl, rfl, x1, rfl, x2, rfl, x1, x2, d1, rfl, r1.same (Same.trans s3 sT), r2.same (Same.trans s3 sT), hfit.2 d1 (List.mem_of_getElem? hd1), fun H5 s5 => ?_⟩
            have d5 := s5 _ _ (sT _ _ d3)
            refine ⟨_, d5, ?_, fun c o e => ?_, ?_⟩
            · rw [List.length_map, List.length_replicate]
              exact small1000 (by omega)
            · rw [upd_ne (fun z => by subst z; rw [nD] at e; cases e)]
              exact s5 _ _ (sT _ _ (s3 _ _ e))
            · rw [upd_same, List.replicate_succ', List.map_append]
              rfl
          · rintro H3 ⟨s3, d3⟩
            refine ⟨D, _, rfl, SqL.of d3, ?_⟩
            rw [all_true]
            exact q _ (Same.trans s1 s3)
      | non =>
        cases hv1
        refine ⟨_, T, _, .type "NoneType", _, _, rfl, htT, .cons (.ty _) (.cons (.ty _) .nil), .base .non, kitA (x := false) (y := false) (by decide +kernel) (by decide +kernel), _, rfl, ?_⟩
        refine ⟨_, rfl, rfl, _, rfl, ?_⟩
        refine ⟨_, rfl, _, _, .type "NoneType", _, false, rfl, .ty _, .base .non, kit_ty (by decide +kernel), _, rfl, _, _, .type "NoneType", _, false, rfl, .ty _, .base .non, kit_ty (by decide +kernel), rfl, _, rfl, ?_⟩
        refine ⟨_, rfl, _, rfl, rfl, ?_⟩
        exact q _ s1
      | bl x =>
        cases hv1
        refine ⟨_, T, _, .type "bool", _, _, rfl, htT, .cons (.ty _) (.cons (.ty _) .nil), .base (.bl _), kitA (x := false) (y := false) (by decide +kernel) (by decide +kernel), _, rfl, ?_⟩
        refine ⟨_, rfl, rfl, _, rfl, ?_⟩
        refine ⟨_, rfl, by show 2 ≤ sizeLine; decide, fun T2 nT2 => ?_⟩
        refine ⟨_, T2, _, .type "bool", _, _, rfl, upd_same, .cons (.ty _) (.cons (.ty _) .nil), .base (.bl _), kitA (x := false) (y := true) (by decide +kernel) (by decide +kernel), _, rfl, ?_⟩
        refine ⟨_, rfl, _, _, .type "bool", _, true, rfl, .ty _, .base (.bl _), kit_ty (by decide +kernel), _, rfl, _, _, .type "bool", _, true, rfl, .ty _, .base (.bl _), kit_ty (by decide +kernel), rfl, _, rfl, ?_⟩
        refine ⟨_, rfl, _, rfl, rfl, ?_⟩
        rw [decide_eq_true rfl]
        exact q _ (Same.trans s1 (same_upd nT2))
      | str x =>
        cases hv1
        refine ⟨_, T, _, .type "str", _, _, rfl, htT, .cons (.ty _) (.cons (.ty _) .nil), .base (.str _), kitA (x := false) (y := false) (by decide +kernel) (by decide +kernel), _, rfl, ?_⟩
        refine ⟨_, rfl, rfl, _, rfl, ?_⟩
        refine ⟨_, rfl, by show 2 ≤ sizeLine; decide, fun T2 nT2 => ?_⟩
        refine ⟨_, T2, _, .type "str", _, _, rfl, upd_same, .cons (.ty _) (.cons (.ty _) .nil), .base (.str _), kitA (x := true) (y := false) (by decide +kernel) (by decide +kernel), _, rfl, ?_⟩
        refine ⟨_, rfl, _, _, .type "str", _, false, rfl, .ty _, .base (.str _), kit_ty (by decide +kernel), _, rfl, _, _, .type "str", _, false, rfl, .ty _, .base (.str _), kit_ty (by decide +kernel), rfl, _, rfl, ?_⟩
        refine ⟨_, rfl, _, rfl, rfl, ?_⟩
        rw [decide_eq_true rfl]
        exact q _ (Same.trans s1 (same_upd nT2))
      | int x =>
        cases hv1
        refine ⟨_, T, _, .type "int", _, _, rfl, htT, .cons (.ty _) (.cons (.ty _) .nil), .base (.int _), kitA (x := false) (y := false) (by decide +kernel) (by decide +kernel), _, rfl, ?_⟩
        refine ⟨_, rfl, rfl, _, rfl, ?_⟩
        refine ⟨_, rfl, by show 2 ≤ sizeLine; decide, fun T2 nT2 => ?_⟩
        refine ⟨_, T2, _, .type "int", _, _, rfl, upd_same, .cons (.ty _) (.cons (.ty _) .nil), .base (.int _), kitA (x := false) (y := false) (by decide +kernel) (by decide +kernel), _, rfl, ?_⟩
        refine ⟨_, rfl, _, _, .type "int", _, true, rfl, .ty _, .base (.int _), kit_ty (by decide +kernel), _, rfl, ?_⟩
        refine ⟨_, rfl, _, _, .type "int", _, false, rfl, .ty _, .base (.int _), kit_ty (by decide +kernel), _, rfl, _, rfl, ?_⟩
        refine ⟨_, rfl, _, rfl, rfl, ?_⟩
        rw [decide_eq_true rfl]
        exact q _ (Same.trans s1 (same_upd nT2))
end
end Sg

namespace Sg
open PySem PySem.Spec PyProof.Rows L2
abbrev sName : Stmt := topS 2
abbrev nName : List Str := ["thing", "sign"]
theorem scName : FnScope nName ["thing"] (defScope sName) := ⟨rfl, rfl, rfl, by decide +kernel, rfl, by decide +kernel, by decide +kernel⟩
abbrev sPieces : Stmt := topS 4
abbrev nPieces : List Str := ["text", "first", "others", "pieces", "piece", "name", "end", "behind"]
theorem scPieces : FnScope nPieces ["text"] (defScope sPieces) := ⟨rfl, rfl, rfl, by decide +kernel, rfl, by decide +kernel, by decide +kernel⟩
abbrev sMarks : Stmt := topS 5
abbrev nMarks : List Str := ["text", "word", "piece"]
theorem scMarks : FnScope nMarks ["text"] (defScope sMarks) := ⟨rfl, rfl, rfl, by decide +kernel, rfl, by decide +kernel, by decide +kernel⟩
abbrev rLeS : R2 := fun x y H Q => ∃ i j, x = .str i ∧ y = .str j ∧ Q (.bl (!decide (j.cps.toList < i.cps.toList))) H
theorem lt_one (a b : Nat) : (!decide ([a] < [b])) = decide (b ≤ a) := by
  by_cases h : a < b
  · have : ¬ b ≤ a := by omega
    simp [List.cons_lt_cons_iff, h, this]
  · have : b ≤ a := by omega
    simp [List.cons_lt_cons_iff, h, this]
theorem s_lt : (Str.ofString "<") = ⟨#[60]⟩ := by decide +kernel
theorem s_gt : (Str.ofString ">") = ⟨#[62]⟩ := by decide +kernel
theorem s_a : (Str.ofString "a").cps.toList = [97] := by decide +kernel
theorem s_z : (Str.ofString "z").cps.toList = [122] := by decide +kernel
theorem szT (n : Nat) (h : n ≤ 100000) : n ≤ sizeLine := Nat.le_trans h (by decide)
section
variable {P : Program} {w : World} {K : PySem.W.Frag} {mg : Str → Option Value} {base : Heap}
def spName : Sp := fun vs H Q _ => ∃ (x : Str), vs = [.str x] ∧ x.length ≤ 1000 ∧ ∀ H', Same H H' → Q (.bl (isNm (cp x))) H'
theorem ok_name {f : Addr} {fd : FuncData} {k : Nat} {tk : Tok} (F : Fun K "is_name" "is_name" sName f fd) (mN : mg "NAME_MOST" = some (.int 8 tk)) (mis : mg "isinstance" = none) (mst : mg "str" = none) (ml : mg "len" = none) (ma : mg "all" = none) : FnOk P w K mg base CX0 (k + 1) f fd ["thing"] spName := by
  refine F.ok scName (fun vs H Q E h => ?_) (fun cdv A outer s H vs Q E hr h => ?_)
  · obtain ⟨x, rfl, _⟩ := h
    rfl
  · obtain ⟨x, rfl, hl, q⟩ := h
    refine ⟨_, pss_cons (ps_if (PW.pt (pw_or (pt_not (pt_val (pe_callB call_isi (by rfl) mis (by decide +kernel) (pa_cons (pv 0) (pa_cons (pe_bltn (v := .ty "str") (by rfl) mst (by decide +kernel) rfl) pa_nil)))))
          (pw_or1 (pt_not (pt_chain op_le op_le pe_int (pe_callB call_len_str (by rfl) ml PySem.boot_len (pa_cons (pv 0) pa_nil)) (pe_glob (v := .int 8) (by rfl) mN ⟨_, rfl⟩)))))) (pss_one (ps_ret pe_bl)) pss_nil)
      (pss_one (ps_ret (pe_callB (cr_all rfl) (by rfl) ma (by decide +kernel) (pa_cons (pe_lc (own := [("sign", 1)]) (g := gName 1) (tt := tYes) (te := tChain rLeS rLeS (tC (.str "a")) (tVar 1) (tC (.str "z"))) rfl scName.nd (pi_str (pv 0)) (blkOk_by (N := nName) (sc := defScope sName) (by decide +kernel))
        (fun _ _ _ _ _ => pg_name (i := 1) scName.nd rfl (.inl rfl)) (fun _ _ _ _ _ => pts_nil) (fun _ _ _ _ _ => pe_chain op_le_str op_le_str pe_str (pv 1) pe_str)) pa_nil)))), ?_⟩
    refine ⟨.str x, rfl, _, _, .type "str", _, true, rfl, .ty _, .base (.str _), kit_ty (by decide +kernel), _, rfl, ?_⟩
    refine ⟨.str x, rfl, x, rfl, szT _ (by omega), 1, _, rfl, rfl, _, rfl, ?_⟩
    have hcl := cp_len x
    by_cases h1 : 1 ≤ x.length
    · rw [if_pos (decide_eq_true (by omega : (1 : Int) ≤ (x.length : Nat)))]
      refine ⟨_, _, rfl, rfl, _, rfl, ?_⟩
      by_cases h8 : x.length ≤ 8
      · rw [show decide ((x.length : Int) ≤ 8) = true from decide_eq_true (by omega)]
        refine ⟨.str x, rfl, x, rfl, fun D nD => ?_⟩
        refine lc_it (walk_str (z := x)) (fun i H3 => Same H H3 ∧ H3 D = some (.lst ((((cp x).take i).map low).map V.bl))) ⟨same_upd nD, upd_same⟩ (fun _ _ _ _ => trivial) ?_ ?_
        · rintro i v H4 H3 hi ⟨s3, d3⟩ ⟨rfl, c, hc, rfl⟩
          have hi2 : i < (cp x).length := by simpa [cp] using hi
          have hci : (cp x)[i] = c := by
            have : (cp x)[i]? = some c := by rw [← hc]; simp [cp]
            rw [List.getElem?_eq_getElem hi2] at this
            exact Option.some.inj this
          refine ⟨rfl, .str ⟨#[c]⟩, rfl, _, _, rfl, rfl, _, rfl, ?_⟩
          have e1 : (!decide ((⟨#[c]⟩ : Str).cps.toList < (Str.ofString "a").cps.toList)) = decide (97 ≤ c) := by
            rw [s_a]
            exact lt_one c 97
          have e2 : (!decide ((Str.ofString "z").cps.toList < (⟨#[c]⟩ : Str).cps.toList)) = decide (c ≤ 122) := by
            rw [s_z]
            exact lt_one 122 c
          have fin : ∀ b : Bool, b = low c → ∃ acc, H3 D = some (.lst acc) ∧ acc.length < sizeLine ∧ (Same H (upd H3 D (.lst (acc ++ [V.bl b]))) ∧ upd H3 D (.lst (acc ++ [V.bl b])) D = some (.lst ((((cp x).take (i + 1)).map low).map V.bl))) := by
            intro b hb
            refine ⟨_, d3, ?_, fun a o e => ?_, ?_⟩
            · rw [List.length_map, List.length_map, List.length_take]
              exact small1000 (by omega)
            · rw [upd_ne (fun z => by subst z; rw [nD] at e; cases e)]
              exact s3 _ _ e
            · rw [upd_same, List.take_succ_eq_append_getElem hi2, List.map_append, List.map_append, hci, hb]
              rfl
          rw [e1]
          by_cases h97 : 97 ≤ c
          · rw [if_pos (decide_eq_true h97)]
            refine ⟨_, _, rfl, rfl, ?_⟩
            rw [e2]
            exact fin _ (by unfold low; rw [decide_eq_true h97, Bool.true_and])
          · rw [if_neg (by simpa using h97)]
            exact fin _ (by unfold low; rw [decide_eq_false h97, Bool.false_and])
        · rintro H3 ⟨s3, d3⟩
          have hsz : x.cps.size = (cp x).length := by simp [cp]
          rw [hsz, List.take_length] at d3
          refine ⟨D, (cp x).map low, rfl, SqL.of d3, ?_⟩
          have e : ((cp x).map low).all id = isNm (cp x) := by
            unfold isNm
            rw [hcl, decide_eq_true h1, decide_eq_true h8, List.all_map]
            rfl
          rw [e]
          exact q _ s3
      · rw [show decide ((x.length : Int) ≤ 8) = false from decide_eq_false (by omega)]
        have e : isNm (cp x) = false := by
          unfold isNm
          rw [hcl, decide_eq_false h8, Bool.and_false, Bool.false_and]
        have := q _ (Same.refl H)
        rw [e] at this
        exact this
    · rw [if_neg (by simp; omega)]
      have e : isNm (cp x) = false := by
        unfold isNm
        rw [hcl, decide_eq_false h1, Bool.false_and, Bool.false_and]
      refine ⟨_, rfl, ?_⟩
      have := q _ (Same.refl H)
      rw [e] at this
      exact this
end
end Sg

namespace Sg
open PySem PySem.Spec PyProof.Rows L2
/-! ### pieces -/
abbrev Pc : Type := Bool × Str
def dPc (q : Pc) : PyData := .tuple [.str (if q.1 = true then "mark" else "plain"), .str q.2]
theorem imm_dPc (q : Pc) : imm (dPc q) = true := rfl
def ofPc (q : Pc) : Option Str := if q.1 = true then some q.2 else none
theorem spl_few (c : Nat) : ∀ L : List Nat, (spl c L).2.length ≤ L.length ∧ ((spl c L).1.length ≤ L.length ∧ ∀ p ∈ (spl c L).2, p.length ≤ L.length)
  | [] => ⟨Nat.le_refl _, Nat.le_refl _, fun _ h => by cases h⟩
  | d :: r => by
    obtain ⟨h1, h2, h3⟩ := spl_few c r
    unfold spl
    by_cases h : d = c
    · rw [if_pos h]
      refine ⟨Nat.succ_le_succ h1, Nat.zero_le _, fun p hp => ?_⟩
      rcases List.mem_cons.mp hp with z | z
      · rw [z, List.length_cons]
        omega
      · have := h3 p z
        rw [List.length_cons]
        omega
    · rw [if_neg h]
      refine ⟨?_, Nat.succ_le_succ h2, fun p hp => ?_⟩
      · rw [List.length_cons]
        exact Nat.le_succ_of_le h1
      · have := h3 p hp
        rw [List.length_cons]
        omega
theorem RpAll.add1 {α : Type} {f : α → PyData} (himm : ∀ x, imm (f x) = true) {H : Hp} {D : Addr} {us : List V} {xs : List α} {r : V} {x : α} (d : H D = some (.lst us)) (h : RpAll H us (xs.map f)) (hr : Rp H r (f x)) : RpAll (upd H D (.lst (us ++ [r]))) (us ++ [r]) ((xs ++ [x]).map f) := by
  rw [List.map_append]
  have kT : KeepT H (upd H D (.lst (us ++ [r]))) := keepT_lst d
  exact (h.keep kT (immAll_map himm xs)).append (.cons (hr.keep kT (himm x)) .nil)
theorem cp_add (a b : Str) : (a ++ b).length = a.length + b.length := Str.length_append a b
section
variable {P : Program} {w : World} {K : PySem.W.Frag} {mg : Str → Option Value} {base : Heap}
def spPieces : Sp := fun vs H Q _ => ∃ (x : Str), vs = [.str x] ∧ x.length ≤ 400 ∧ ∀ (p : Addr) (H' : Hp) (ps : List Pc), Same H H' → H p = none → Rp H' (.ref p) (.list (ps.map dPc)) → (ps.filterMap ofPc).map cp = marksP (cp x) → ps.length ≤ 1 + 2 * x.length → Q (.ref p) H'
theorem ok_pieces {f fN : Addr} {fd fdN : FuncData} {k : Nat} (F : Fun K "pieces_of" "pieces_of" sPieces f fd) (FN : Fun K "is_name" "is_name" sName fN fdN) (bN : Binds K fdN ["thing"] []) (gN : mg "is_name" = some (.ref fN)) (GN : FnOk P w K mg base CX0 (k + 1) fN fdN ["thing"] spName) : FnOk P w K mg base CX0 (k + 2) f fd ["text"] spPieces := by
  refine F.ok scPieces (fun vs H Q E h => ?_) (fun cdv A outer s H vs Q E hr h => ?_)
  · obtain ⟨x, rfl, _⟩ := h
    rfl
  · obtain ⟨x, rfl, hl, q⟩ := h
    refine ⟨_, pss_cons (ps_asg (pe_split (pv 0) pe_str) (pg_star rfl (pgs_cons (pg_name (i := 1) scPieces.nd rfl (.inl rfl)) (pgs_cons (pg_name (i := 2) scPieces.nd rfl (.inl rfl)) pgs_nil))))
      (pss_cons (ps_set (i := 3) scPieces.nd rfl (.inl rfl) (pe_lst (pa_cons (pe_tup (pa_cons pe_str (pa_cons (pv 1) pa_nil))) pa_nil)))
      (pss_cons (ps_for PassesOwn.never rfl (pi_list (pv 2)) (pg_name (i := 4) scPieces.nd rfl (.inl rfl))
        (pss_cons (ps_asg (pe_partition (pv 4) pe_str) (pg_tup rfl (pgs_cons (pg_name (i := 5) scPieces.nd rfl (.inl rfl)) (pgs_cons (pg_name (i := 6) scPieces.nd rfl (.inl rfl)) (pgs_cons (pg_name (i := 7) scPieces.nd rfl (.inl rfl)) pgs_nil)))))
        (pss_one (ps_if (PW.pt (pw_and (pt_cmpR op_eq (pv 6) pe_str (nomark _)) (pw_and1 (pt_val (pe_call GN hr (by rfl) gN FN.kp bN .nil pass0 (pa_cons (pv 5) pa_nil))))))
          (pss_one (ps_expr (pe_bm PySem.F.plainAttrs_list PySem.F.slot_list_extend PySem.F.type_list_extend mt_extend (pv 3) (pa_cons (pe_lst (pa_cons (pe_tup (pa_cons pe_str (pa_cons (pv 5) pa_nil))) (pa_cons (pe_tup (pa_cons pe_str (pa_cons (pv 7) pa_nil))) pa_nil))) pa_nil))))
          (pss_one (ps_expr (pe_bm PySem.F.plainAttrs_list PySem.F.slot_list_append PySem.F.type_list_append mt_append (pv 3) (pa_cons (pe_tup (pa_cons pe_str (pa_cons (pe_op op_add_str pe_str (pv 4)) pa_nil))) pa_nil))))))))
      (pss_one (ps_ret (pv 3))))), ?_⟩
    have hts := txt_split x 60 (by decide)
    obtain ⟨hn1, hn2, hn3⟩ := spl_few 60 (cp x)
    have hcl := cp_len x
    refine ⟨.str x, rfl, ⟨x, rfl⟩, x, "<", rfl, rfl, by decide +kernel, szT _ (by omega), fun l nl => ?_⟩
    rw [s_lt]
    cases hsp : Txt.split x ⟨#[60]⟩ with
    | nil => rw [hsp] at hts; cases hts
    | cons fs os =>
    rw [hsp] at hts
    have hos : os.map cp = (spl 60 (cp x)).2 := (List.cons.inj hts).2
    have hol : os.length = (spl 60 (cp x)).2.length := by rw [← hos, List.length_map]
    have hop : ∀ o ∈ os, o.length ≤ x.length := fun o ho => by
      have := hn3 (cp o) (by rw [← hos]; exact List.mem_map.mpr ⟨o, ho, rfl⟩)
      rw [cp_len] at this
      omega
    refine ⟨l, .str fs, os.map V.str, rfl, SqL.of upd_same, by rw [List.length_map]; omega, fun ol nol => ?_⟩
    have s1 := same_upd (o := .lst ((fs :: os).map V.str)) nl
    have s2 := same_upd (o := .lst (os.map V.str)) nol
    have eol : upd (upd H l (.lst ((fs :: os).map V.str))) ol (.lst (os.map V.str)) ol = some (.lst (os.map V.str)) := upd_same
    have s02 := Same.trans s1 s2
    refine ⟨_, _, rfl, _, _, rfl, rfl, ?_⟩
    generalize upd (upd H l (.lst ((fs :: os).map V.str))) ol (.lst (os.map V.str)) = H2 at *
    refine ⟨.str fs, rfl, by show 2 ≤ sizeLine; decide, fun tp ntp => ⟨by show 1 ≤ sizeLine; decide, fun pl npl => ?_⟩⟩
    have s3 := same_upd (o := .tup [.str "plain", .str fs]) ntp
    have s4 := same_upd (o := .lst [.ref tp]) npl
    have s24 := Same.trans s3 s4
    have npl2 : H2 pl = none := s3.free npl
    have eol4 := s24 _ _ eol
    refine ⟨.ref ol, rfl, ol, rfl, ⟨_, SqL.of eol4⟩, ?_⟩
    refine for_it (walk_list (xs := os.map V.str)) (fun i σ G => ∃ (y4 y5 y6 y7 : Option V) (ps : List Pc) (us : List V), σ = [some (.str x), some (.str fs), some (.ref ol), some (.ref pl), y4, y5, y6, y7] ∧ Same H2 G ∧ G pl = some (.lst us) ∧ RpAll G us (ps.map dPc) ∧ (ps.filterMap ofPc).map cp = ((os.take i).map cp).filterMap pieceM ∧ ps.length ≤ 1 + 2 * i)
      ⟨none, none, none, none, [(false, fs)], [.ref tp], rfl, s24, upd_same, .cons (.tup (s4 _ _ upd_same) (.cons (.str _) (.cons (.str _) .nil))) .nil, rfl, Nat.le_refl _⟩ ?_ ?_ ?_
    · rintro i σ G _ ⟨y4, y5, y6, y7, ps, us, rfl, sG, _⟩
      exact SqL.of (sG _ _ eol)
    · rintro i v σ G0 G hi ⟨y4, y5, y6, y7, ps, us, rfl, sG, dG, rG, mG, lG⟩ ⟨rfl, fv⟩
      rw [List.length_map] at hi
      rw [List.getElem?_map, List.getElem?_eq_getElem hi] at fv
      cases fv
      have hpo := hop _ (List.getElem_mem hi)
      have hstep : ((os.take (i + 1)).map cp).filterMap pieceM = ((os.take i).map cp).filterMap pieceM ++ (pieceM (cp os[i])).toList := by
        rw [List.take_succ_eq_append_getElem hi, List.map_append, List.filterMap_append]
        cases h : pieceM (cp os[i]) <;> simp [h]
      generalize os[i] = o at *
      have hul := rG.length
      rw [List.length_map] at hul
      refine ⟨.str o, rfl, ⟨o, rfl⟩, o, ">", rfl, rfl, by decide +kernel, szT _ (by omega), fun tu ntu => ?_⟩
      rw [s_gt]
      have s5 := same_upd (o := .tup [.str (Txt.partition o ⟨#[62]⟩).1, .str (Txt.partition o ⟨#[62]⟩).2.1, .str (Txt.partition o ⟨#[62]⟩).2.2]) ntu
      refine ⟨tu, _, rfl, SqT.of upd_same, rfl, _, _, rfl, _, _, rfl, _, _, rfl, rfl, ?_⟩
      generalize upd G tu (.tup [.str (Txt.partition o ⟨#[62]⟩).1, .str (Txt.partition o ⟨#[62]⟩).2.1, .str (Txt.partition o ⟨#[62]⟩).2.2]) = G2 at *
      have ntp' : pl ≠ tu := fun e => by
        subst e
        rw [dG] at ntu
        cases ntu
      have d2 := s5 _ _ dG
      have r2 := rG.same s5
      have s2G := Same.trans sG s5
      have npl2' := npl2
      -- the way of what is no mark
      have plain : ∀ (G3 : Hp) (tp2 : Addr), Same G2 G3 → G3 tp2 = none → pieceM (cp o) = none → ∃ (ps : List Pc) (us' : List V), Same H2 (upd (upd G3 tp2 (.tup [.str "plain", .str ((⟨#[60]⟩ : Str) ++ o)])) pl (.lst (us ++ [.ref tp2]))) ∧ upd (upd G3 tp2 (.tup [.str "plain", .str ((⟨#[60]⟩ : Str) ++ o)])) pl (.lst (us ++ [.ref tp2])) pl = some (.lst us') ∧ RpAll (upd (upd G3 tp2 (.tup [.str "plain", .str ((⟨#[60]⟩ : Str) ++ o)])) pl (.lst (us ++ [.ref tp2]))) us' (ps.map dPc) ∧ (ps.filterMap ofPc).map cp = ((os.take (i + 1)).map cp).filterMap pieceM ∧ ps.length ≤ 1 + 2 * (i + 1) := by
        intro G3 tp2 s6 n6 hno
        have s7 := same_upd (o := .tup [.str "plain", .str ((⟨#[60]⟩ : Str) ++ o)]) n6
        have s67 := Same.trans s6 s7
        have d7 := s67 _ _ d2
        refine ⟨ps ++ [(false, (⟨#[60]⟩ : Str) ++ o)], us ++ [.ref tp2], fun b ob e => ?_, upd_same, RpAll.add1 imm_dPc d7 (r2.same s67) (.tup upd_same (.cons (.str _) (.cons (.str _) .nil))), ?_, ?_⟩
        · rw [upd_ne (fun z => by subst z; rw [npl2'] at e; cases e)]
          exact s67 _ _ (s2G _ _ e)
        · rw [List.filterMap_append, List.map_append, mG, hstep, hno]
          rfl
        · rw [List.length_append, List.length_singleton]
          omega
      have hcol := cp_len o
      rcases part_is o with ⟨hm, hc, he⟩ | ⟨hm, he⟩
      · refine ⟨_, rfl, rfl, _, rfl, ?_⟩
        rw [he, show decide (V.str (⟨#[62]⟩ : Str) = V.str ⟨#[62]⟩) = true from decide_eq_true rfl]
        have hnl : (Txt.partition o ⟨#[62]⟩).1.length ≤ o.length := by
          rw [← cp_len, hc, ← cp_len]
          exact (List.takeWhile_sublist _).length_le
        refine ⟨_, rfl, (Txt.partition o ⟨#[62]⟩).1, rfl, by omega, fun G3 s6 => ⟨_, rfl, ?_⟩⟩
        rw [hc]
        cases hnm : isNm (tw (cp o)) with
        | true =>
          have hpm : pieceM (cp o) = some (tw (cp o)) := if_pos ⟨hm, hnm⟩
          have d6 := s6 _ _ d2
          refine ⟨.ref pl, rfl, .inl ⟨rfl, _, SqL.of d6⟩, _, rfl, by show 2 ≤ sizeLine; decide, fun t1 n1 => ⟨_, rfl, by show 2 ≤ sizeLine; decide, fun t2 n2 => ⟨by show 2 ≤ sizeLine; decide, fun t3 n3 => ?_⟩⟩⟩
          have a1 := same_upd (o := .tup [.str "mark", .str (Txt.partition o ⟨#[62]⟩).1]) n1
          have a2 := same_upd (o := .tup [.str "plain", .str (Txt.partition o ⟨#[62]⟩).2.2]) n2
          have a3 := same_upd (o := .lst [.ref t1, .ref t2]) n3
          have a23 := Same.trans a2 a3
          have a13 := Same.trans a1 a23
          have s69 := Same.trans s6 a13
          refine ⟨pl, t3, us, [.ref t1, .ref t2], rfl, rfl, a13 _ _ d6, upd_same, ?_, ?_⟩
          · show us.length + 2 ≤ sizeLine
            exact szT _ (by omega)
          have kT : KeepT _ (upd _ pl (.lst (us ++ [.ref t1, .ref t2]))) := keepT_lst (a13 _ _ d6)
          refine ⟨_, _, _, _, ps ++ [(true, (Txt.partition o ⟨#[62]⟩).1), (false, (Txt.partition o ⟨#[62]⟩).2.2)], us ++ [.ref t1, .ref t2], rfl, fun b ob e => ?_, upd_same, ?_, ?_, ?_⟩
          · rw [upd_ne (fun z => by subst z; rw [npl2'] at e; cases e)]
            exact s69 _ _ (s2G _ _ e)
          · rw [List.map_append]
            refine RpAll.append ((r2.same s69).keep kT (immAll_map imm_dPc _)) (.cons (Rp.keep kT (.tup (a23 _ _ upd_same) (.cons (.str _) (.cons (.str _) .nil))) rfl) (.cons (Rp.keep kT (.tup (a3 _ _ upd_same) (.cons (.str _) (.cons (.str _) .nil))) rfl) .nil))
          · rw [List.filterMap_append, List.map_append, mG, hstep, hpm]
            show _ ++ [cp (Txt.partition o ⟨#[62]⟩).1] = _
            rw [hc]
            rfl
          · rw [List.length_append]
            show ps.length + 2 ≤ _
            omega
        | false =>
          have hpm : pieceM (cp o) = none := if_neg fun z => by rw [hnm] at z; cases z.2
          have d6 := s6 _ _ d2
          refine ⟨.ref pl, rfl, .inl ⟨rfl, _, SqL.of d6⟩, .str o, rfl, ⟨#[60]⟩, o, rfl, rfl, szT _ (by show 1 + o.length ≤ _; omega), by show 2 ≤ sizeLine; decide, fun tp2 n6 => ?_⟩
          have d7 := same_upd (o := .tup [.str "plain", .str ((⟨#[60]⟩ : Str) ++ o)]) n6 _ _ d6
          refine ⟨pl, us, .ref tp2, rfl, rfl, d7, small1000 (by omega), ?_⟩
          obtain ⟨ps', us', h1, h2, h3, h4, h5⟩ := plain G3 tp2 s6 n6 hpm
          exact ⟨_, _, _, _, ps', us', rfl, h1, h2, h3, h4, h5⟩
      · refine ⟨_, rfl, rfl, _, rfl, ?_⟩
        rw [he, show decide (V.str Str.empty = V.str ⟨#[62]⟩) = false from by decide +kernel]
        have hpm : pieceM (cp o) = none := if_neg fun z => hm z.1
        refine ⟨.ref pl, rfl, .inl ⟨rfl, _, SqL.of d2⟩, .str o, rfl, ⟨#[60]⟩, o, rfl, rfl, szT _ (by show 1 + o.length ≤ _; omega), by show 2 ≤ sizeLine; decide, fun tp2 n6 => ?_⟩
        have d7 := same_upd (o := .tup [.str "plain", .str ((⟨#[60]⟩ : Str) ++ o)]) n6 _ _ d2
        refine ⟨pl, us, .ref tp2, rfl, rfl, d7, small1000 (by omega), ?_⟩
        obtain ⟨ps', us', h1, h2, h3, h4, h5⟩ := plain G2 tp2 (Same.refl _) n6 hpm
        exact ⟨_, _, _, _, ps', us', rfl, h1, h2, h3, h4, h5⟩
    · rintro σ G ⟨y4, y5, y6, y7, ps, us, rfl, sG, dG, rG, mG, lG⟩
      rw [List.length_map, List.take_length, hos] at mG
      rw [List.length_map] at lG
      exact ⟨.ref pl, rfl, q _ _ ps (Same.trans s02 sG) (s02.free npl2) (.lst dG rG) mG (by omega)⟩
end
end Sg

namespace Sg
open PySem PySem.Spec PyProof.Rows L2
theorem smallM {n : Nat} (h : n ≤ 100000) : n < sizeLine := Nat.lt_of_le_of_lt h (by decide)
theorem same_add {H H1 : Hp} {D : Addr} {o : HO} (nD : H D = none) (s : Same H H1) : Same H (upd H1 D o) := fun b o' e => by
  rw [upd_ne (fun z => by subst z; rw [nD] at e; cases e)]
  exact s _ _ e
theorem Rp.lst_inv {H : Hp} {a : Addr} {ds : List PyData} (h : Rp H (.ref a) (.list ds)) : ∃ xs, H a = some (.lst xs) ∧ RpAll H xs ds := by
  cases h with
  | lst ha hs => exact ⟨_, ha, hs⟩
theorem Rp.pair_inv {H : Hp} {v : V} {d e : PyData} (h : Rp H v (.tuple [d, e])) : ∃ a x y, v = .ref a ∧ H a = some (.tup [x, y]) ∧ Rp H x d ∧ Rp H y e := by
  cases h with
  | tup ha hs =>
    cases hs with
    | cons h1 h2 =>
      cases h2 with
      | cons h3 h4 =>
        cases h4
        exact ⟨_, _, _, rfl, ha, h1, h3⟩
theorem Rp.str_inv {H : Hp} {v : V} {x : Str} (h : Rp H v (.str x)) : v = .str x := by
  cases h
  rfl
theorem Rp.bool_inv {H : Hp} {v : V} {x : Bool} (h : Rp H v (.bool x)) : v = .bl x := by
  cases h
  rfl
/-- [e for x in .. if t], whatever is walked; answers without lists in them -/
theorem gen_lc {J : It} {n : Nat} {G : Hp → Prop} {Y : Nat → Hp → V → Hp → Prop} (w : Walk J n G Y) (p : Nat → Bool) (val : Nat → PyData) (himm : ∀ i, imm (val i) = true) {g : TG} {tt : TT} {te : TE} {vs : List Nat} {σ : L2.St} {H1 : Hp} {D : Addr} {Qd : Hp → Prop} (nD : H1 D = none) (hn : n ≤ 100000) (hG : ∀ H, Same H1 H → G H)
    (hs : ∀ (i : Nat) (x : V) (H H' : Hp) (Qy : VK) (Qn : Hp → Prop), i < n → Same H1 H → Y i H x H' → (p i = true → ∀ r H4, Same H H4 → Rp H4 r (val i) → Qy r H4) → (p i = false → ∀ H4, Same H H4 → Qn H4) →
      g x (wipe σ vs) H' fun σ2 H2 => wipe σ2 vs = wipe σ vs ∧ tt σ2 H2 fun b H3 => if b = true then te σ2 H3 Qy else Qn H3)
    (hd : ∀ H' ts, Same H1 H' → H' D = some (.lst ts) → RpAll H' ts (((List.range n).filter p).map val) → Qd H') :
    ∃ W : Nat → Nat → Hp → Prop, (∃ m, W 0 m (upd H1 D (.lst []))) ∧ ∀ i m H, W i m H →
      (J.stop i H ∧ Qd H) ∨ (J.go i H ∧ ∃ Nx : Hp → Prop, (∀ H', Nx H' → ∃ m', m' < m ∧ W (i + 1) m' H') ∧ ∀ x H', J.yld i H x H' → g x (wipe σ vs) H' fun σ2 H2 => wipe σ2 vs = wipe σ vs ∧ tt σ2 H2 fun b H3 =>
        if b = true then te σ2 H3 fun y H4 => ∃ acc, H4 D = some (.lst acc) ∧ acc.length < sizeLine ∧ Nx (upd H4 D (.lst (acc ++ [y]))) else Nx H3) := by
  refine lc_it w (fun i H3 => ∃ ts, Same H1 H3 ∧ H3 D = some (.lst ts) ∧ RpAll H3 ts (((List.range i).filter p).map val)) ⟨[], same_upd nD, upd_same, .nil⟩ (fun i H3 _ h3 => let ⟨_, s3, _⟩ := h3; hG _ s3) ?_ ?_
  · rintro i x H3 H4 hi ⟨ts, s3, d3, r3⟩ y
    have hl := r3.length
    rw [List.length_map] at hl
    have hfl := List.length_filter_le p (List.range i)
    rw [List.length_range] at hfl
    refine hs i x H3 H4 _ _ hi s3 y (fun hp r H5 s5 h5 => ?_) (fun hp H5 s5 => ?_)
    · have d5 := s5 _ _ d3
      refine ⟨ts, d5, smallM (by omega), ts ++ [r], same_add nD (Same.trans s3 s5), upd_same, ?_⟩
      rw [List.range_succ, List.filter_append, List.filter_cons_of_pos hp, List.filter_nil]
      exact RpAll.add1 himm d5 (r3.same s5) h5
    · refine ⟨ts, Same.trans s3 s5, s5 _ _ d3, ?_⟩
      rw [List.range_succ, List.filter_append, List.filter_cons_of_neg (by rw [hp]; exact Bool.false_ne_true), List.filter_nil, List.append_nil]
      exact r3.same s5
  · rintro H3 ⟨ts, s3, d3, r3⟩
    exact hd _ _ s3 d3 r3
theorem range_map {α β : Type} (f : α → β) (z : α) (xs : List α) : (List.range xs.length).map (fun i => f (xs.getD i z)) = xs.map f := by
  apply List.ext_getElem
  · simp
  · intro i h1 h2
    have h3 : i < xs.length := by simpa using h2
    simp [h3]
theorem range_pick {α β : Type} (f : α → β) (p : α → Bool) (z : α) (xs : List α) : ((List.range xs.length).filter fun i => p (xs.getD i z)).map (fun i => f (xs.getD i z)) = (xs.filter p).map f := by
  have e : (List.range xs.length).map (fun i => id (xs.getD i z)) = xs := (range_map id z xs).trans (List.map_id xs)
  have e2 : xs.filter p = ((List.range xs.length).filter fun i => p (xs.getD i z)).map (fun i => id (xs.getD i z)) := by
    have := congrArg (List.filter p) e
    rw [List.filter_map] at this
    exact this.symm
  rw [e2, List.map_map]
  rfl
theorem getD_lt {α : Type} {xs : List α} {i : Nat} (z : α) (h : i < xs.length) : xs.getD i z = xs[i] := by
  simp [h]
theorem pc_filter (ps : List Pc) : ps.filterMap ofPc = (ps.filter (·.1)).map (·.2) := by
  induction ps with
  | nil => rfl
  | cons p ps ih =>
    cases h : p.1 <;> simp [ofPc, h, ih]
def dQ (q : Pc) : PyData := .tuple [.bool q.1, .str q.2]
theorem imm_dQ (q : Pc) : imm (dQ q) = true := rfl
section
variable {P : Program} {w : World} {K : PySem.W.Frag} {mg : Str → Option Value} {base : Heap}
def spMarks : Sp := fun vs H Q _ => ∃ (x : Str), vs = [.str x] ∧ x.length ≤ 400 ∧ ∀ (p : Addr) (H' : Hp) (ms : List Str), Same H H' → H p = none → H' p = some (.lst (ms.map V.str)) → ms.map cp = marksP (cp x) → ms.length ≤ 1 + 2 * x.length → Q (.ref p) H'
theorem ok_marks {f fP : Addr} {fd fdP : FuncData} {k : Nat} (F : Fun K "marks_in" "marks_in" sMarks f fd) (FP : Fun K "pieces_of" "pieces_of" sPieces fP fdP) (bP : Binds K fdP ["text"] []) (gP : mg "pieces_of" = some (.ref fP)) (GP : FnOk P w K mg base CX0 (k + 2) fP fdP ["text"] spPieces) : FnOk P w K mg base CX0 (k + 3) f fd ["text"] spMarks := by
  refine F.ok scMarks (fun vs H Q E h => ?_) (fun cdv A outer s H vs Q E hr h => ?_)
  · obtain ⟨x, rfl, _⟩ := h
    rfl
  · obtain ⟨x, rfl, hl, q⟩ := h
    refine ⟨_, pss_one (ps_ret (pe_lc (own := [("word", 1), ("piece", 2)]) (g := gTup K 2 (gCons (gName 1) (gCons (gName 2) gNil))) (tt := tTest (tOp rEq (tVar 1) (tC (.str "mark")))) (te := tVar 2) rfl scMarks.nd (pi_list (pe_call GP hr (by rfl) gP FP.kp bP .nil pass0 (pa_cons (pv 0) pa_nil))) (blkOk_by (N := nMarks) (sc := defScope sMarks) (by decide +kernel))
      (fun _ _ _ _ _ => pg_tup rfl (pgs_cons (pg_name (i := 1) scMarks.nd rfl (.inl rfl)) (pgs_cons (pg_name (i := 2) scMarks.nd rfl (.inl rfl)) pgs_nil))) (fun _ _ _ _ _ => pts_one (pt_cmpR op_eq (pv 1) pe_str (nomark _))) (fun _ _ _ _ _ => pv 2))), ?_⟩
    refine ⟨.str x, rfl, x, rfl, hl, fun p H1 ps s1 np hp hm hlen => ?_⟩
    obtain ⟨us, hu, hr1⟩ := hp.lst_inv
    have hul := hr1.length
    rw [List.length_map] at hul
    refine ⟨p, rfl, ⟨us, SqL.of hu⟩, fun D nD => ?_⟩
    refine gen_lc (walk_list (xs := us)) (fun i => (ps.getD i (false, Str.empty)).1) (fun i => .str (ps.getD i (false, Str.empty)).2) (fun _ => rfl) nD (by omega) (fun H3 s3 => SqL.of (s3 _ _ hu)) (fun i y H3 H4 Qy Qn hi s3 yy hy hn => ?_) (fun H3 ts s3 d3 r3 => ?_)
    · obtain ⟨rfl, fy⟩ := yy
      obtain ⟨d, hd, hyo⟩ := hr1.get fy
      have hip : i < ps.length := by omega
      rw [List.getElem?_map, List.getElem?_eq_getElem hip] at hd
      cases hd
      simp only [getD_lt (false, Str.empty) hip] at hy hn
      obtain ⟨a, u, v, rfl, ha, h1, h2⟩ := (hyo.same s3).pair_inv
      have h1 := h1.str_inv
      have h2 := h2.str_inv
      subst h1 h2
      refine ⟨a, _, rfl, SqT.of ha, rfl, _, _, rfl, _, _, rfl, rfl, rfl, _, rfl, ⟨rfl, _, rfl, ?_⟩⟩
      cases hb : ps[i].1 with
      | true =>
        rw [if_pos rfl, show decide (V.str (Str.ofString "mark") = V.str (Str.ofString "mark")) = true from decide_eq_true rfl]
        exact ⟨_, rfl, hy hb _ _ (Same.refl _) (.str _)⟩
      | false =>
        rw [if_neg Bool.false_ne_true, show decide (V.str (Str.ofString "plain") = V.str (Str.ofString "mark")) = false from by decide +kernel]
        exact hn hb _ (Same.refl _)
    · rw [hul, range_pick (fun q : Pc => PyData.str q.2) (fun q => q.1) (false, Str.empty)] at r3
      have e : (ps.filter fun q => q.1).map (fun q => PyData.str q.2) = (ps.filterMap ofPc).map PyData.str := by
        rw [pc_filter, List.map_map]
        rfl
      rw [e] at r3
      have e2 := r3.strs_eq
      rw [e2] at d3
      have hfl : (ps.filterMap ofPc).length ≤ ps.length := List.length_filterMap_le _ _
      exact q D _ (ps.filterMap ofPc) (Same.trans s1 s3) (s1.free nD) d3 hm (by omega)
/-! ### the law's split -/
abbrev sSplit : Stmt := topS 13
abbrev nSplit : List Str := ["_law_written", "_law_found", "_law_at", "_law_turn", "_law_end", "_law_name"]
theorem scSplit : FnScope nSplit ["_law_written"] (defScope sSplit) := ⟨rfl, rfl, rfl, by decide +kernel, rfl, by decide +kernel, by decide +kernel⟩
theorem cut_nat (z : Str) (a b : Nat) (ha : a ≤ z.length) (hb : b ≤ z.length) : cp (cutS z (some (a : Int)) (some (b : Int))) = ((cp z).drop a).take (b - a) := by
  show ((z.cps.toList.drop (HT.sIx z.length 0 (some (a : Int)))).take (HT.sIx z.length z.length (some (b : Int)) - HT.sIx z.length 0 (some (a : Int)))).toArray.toList = _
  rw [HT.sIx_nat, HT.sIx_nat, Nat.min_eq_left ha, Nat.min_eq_left hb]
theorem at_str (z : Str) (i : Nat) (h : i < (cp z).length) : atI z.cps.toList (i : Int) = some (cp z)[i] := atI_nat (List.getElem?_eq_getElem h)
abbrev abc26 : Str := Str.ofString "abcdefghijklmnopqrstuvwxyz"
theorem abc_has (c : Nat) : abc26.cps.contains c = low c := by
  have h : abc26.cps = (List.range' 97 26).toArray := by decide +kernel
  rw [h, Bool.eq_iff_iff]
  unfold low
  rw [Array.contains_iff_mem, Bool.and_eq_true, decide_eq_true_eq, decide_eq_true_eq]
  simp
  omega
def spSplit : Sp := fun vs H Q _ => ∃ (x : Str), vs = [.str x] ∧ x.length ≤ 400 ∧ ∀ (p : Addr) (H' : Hp) (qs : List Pc), Same H H' → H p = none → Rp H' (.ref p) (.list (qs.map dQ)) → (qs.filterMap ofPc).map cp = marksP (cp x) → qs.length ≤ x.length → Q (.ref p) H'
theorem ok_split {f : Addr} {fd : FuncData} {k : Nat} (F : Fun K "_law_split" "_law_split" sSplit f fd) (ml : mg "len" = none) (mr : mg "range" = none) : FnOk P w K mg base CX0 (k + 1) f fd ["_law_written"] spSplit := by
  refine F.ok scSplit (fun vs H Q E h => ?_) (fun cdv A outer s H vs Q E hr h => ?_)
  · obtain ⟨x, rfl, _⟩ := h
    rfl
  · obtain ⟨x, rfl, hl, q⟩ := h
    refine ⟨_, pss_cons (ps_par (i := 1) (j := 2) rfl scSplit.nd rfl rfl (by decide) rfl rfl (pa_cons (pe_lst pa_nil) (pa_cons pe_int pa_nil)) rfl)
      (pss_cons (ps_for PassesOwn.never rfl (pi_range1 rfl mr (pa_cons (pe_callB call_len_str (by rfl) ml PySem.boot_len (pa_cons (pv 0) pa_nil)) pa_nil)) (pg_name (i := 3) scSplit.nd rfl (.inl rfl))
        (pss_one (ps_if (pt_cmpR op_lt (pv 2) (pe_callB call_len_str (by rfl) ml PySem.boot_len (pa_cons (pv 0) pa_nil)) (nomark _))
          (pss_cons (ps_set (i := 4) scSplit.nd rfl (.inl rfl) (pe_bm PySem.F.plainAttrs_str PySem.F.slot_str_find PySem.F.type_str_find mt_find3 (pv 0) (pa_cons pe_str (pa_cons (pv 2) pa_nil))))
          (pss_cons (ps_set (i := 5) scSplit.nd rfl (.inl rfl) (pe_ifExp (PW.pt (pw_and (pt_cmpR op_eq (pe_ix ix_str (pv 0) (pv 2) (fun _ _ => rfl)) pe_str (nomark _)) (pw_and1 (pt_cmpR op_gt (pv 4) (pv 2) (nomark _))))) (pe_slice sl_str (pv 0) (po_some (pe_op op_add (pv 2) pe_int)) (po_some (pv 4))) pe_str))
          (pss_one (ps_if (PW.pt (pw_and (pt_chain op_lt op_lt pe_int (pe_callB call_len_str (by rfl) ml PySem.boot_len (pa_cons (pv 5) pa_nil)) pe_int) (pw_and1 (pt_cmpR op_eq (pe_bm PySem.F.plainAttrs_str PySem.F.slot_str_strip PySem.F.type_str_strip mt_stripChars (pv 5) (pa_cons pe_str pa_nil)) pe_str (nomark _)))))
            (pss_cons (ps_expr (pe_bm PySem.F.plainAttrs_list PySem.F.slot_list_append PySem.F.type_list_append mt_append (pv 1) (pa_cons (pe_tup (pa_cons pe_bl (pa_cons (pv 5) pa_nil))) pa_nil)))
            (pss_one (ps_set (i := 2) scSplit.nd rfl (.inl rfl) (pe_op op_add (pv 4) pe_int))))
            (pss_cons (ps_expr (pe_bm PySem.F.plainAttrs_list PySem.F.slot_list_append PySem.F.type_list_append mt_append (pv 1) (pa_cons (pe_tup (pa_cons pe_bl (pa_cons (pe_ix ix_str (pv 0) (pv 2) (fun _ _ => rfl)) pa_nil))) pa_nil)))
            (pss_one (ps_set (i := 2) scSplit.nd rfl (.inl rfl) (pe_op op_add (pv 2) pe_int))))))))
          pss_nil)))
      (pss_one (ps_ret (pv 1)))), ?_⟩
    have hcl := cp_len x
    refine ⟨Nat.zero_le _, fun l nl => ⟨_, _, rfl, ?_⟩⟩
    refine ⟨.str x, rfl, x, rfl, szT _ (by omega), _, rfl, by omega, by omega, ?_⟩
    refine for_it (walk_range (lo := 0)) (fun i σ G => ∃ (y3 y4 y5 : Option V) (a : Nat) (qs : List Pc) (us : List V), σ = [some (.str x), some (.ref l), some (.int (a : Nat)), y3, y4, y5] ∧ Same H G ∧ G l = some (.lst us) ∧ RpAll G us (qs.map dQ) ∧ (qs.filterMap ofPc).map cp ++ marksP ((cp x).drop a) = marksP (cp x) ∧ i ≤ a ∧ a ≤ x.length ∧ qs.length ≤ i)
      ⟨none, none, none, 0, [], [], rfl, same_upd nl, upd_same, .nil, rfl, Nat.le_refl _, Nat.zero_le _, Nat.le_refl _⟩ (fun _ _ _ _ _ => trivial) ?_ ?_
    · rintro i v σ G0 G hi ⟨y3, y4, y5, a, qs, us, rfl, sG, dG, rG, mG, hia, hax, hqi⟩ ⟨rfl, rfl⟩
      have hul := rG.length
      rw [List.length_map] at hul
      refine ⟨.int (a : Nat), rfl, .str x, rfl, x, rfl, szT _ (by omega), _, _, rfl, rfl, _, rfl, ite2 (fun h => ?_) (fun h => ?_)⟩
      · have h : ((a : Nat) : Int) < ((x.length : Nat) : Int) := of_decide_eq_true h
        have ha : a < (cp x).length := by rw [hcl]; omega
        have hd : (cp x).drop a = (cp x)[a] :: (cp x).drop (a + 1) := List.drop_eq_getElem_cons ha
        -- what is no mark
        have other : ∀ (tp : Addr), G tp = none → marksP ((cp x).drop a) = marksP ((cp x).drop (a + 1)) → ∃ (qs : List Pc) (us' : List V), Same H (upd (upd G tp (.tup [.bl false, .str ⟨#[(cp x)[a]]⟩])) l (.lst (us ++ [.ref tp]))) ∧ upd (upd G tp (.tup [.bl false, .str ⟨#[(cp x)[a]]⟩])) l (.lst (us ++ [.ref tp])) l = some (.lst us') ∧ RpAll (upd (upd G tp (.tup [.bl false, .str ⟨#[(cp x)[a]]⟩])) l (.lst (us ++ [.ref tp]))) us' (qs.map dQ) ∧ (qs.filterMap ofPc).map cp ++ marksP ((cp x).drop (a + 1)) = marksP (cp x) ∧ qs.length ≤ i + 1 := by
          intro tp ntp hm
          have s7 := same_upd (o := .tup [.bl false, .str ⟨#[(cp x)[a]]⟩]) ntp
          refine ⟨qs ++ [(false, ⟨#[(cp x)[a]]⟩)], us ++ [.ref tp], same_add nl (Same.trans sG s7), upd_same, RpAll.add1 imm_dQ (s7 _ _ dG) (rG.same s7) (.tup upd_same (.cons (.bl _) (.cons (.str _) .nil))), ?_, ?_⟩
          · rw [List.filterMap_append, List.map_append, ← mG, hm]
            show ((qs.filterMap ofPc).map cp ++ []) ++ _ = _
            rw [List.append_nil]
          · rw [List.length_append, List.length_singleton]
            omega
        refine ⟨.str x, rfl, rfl, .int (a : Nat), rfl, x, ">", (a : Nat), rfl, rfl, ?_⟩
        rw [s_gt]
        refine ⟨.str x, rfl, .int (a : Nat), rfl, x, (a : Nat), (cp x)[a], rfl, rfl, szT _ (by omega), at_str x a ha, rfl, _, rfl, ?_⟩
        by_cases hc : (cp x)[a] = 60
        · rw [show decide (V.str (⟨#[(cp x)[a]]⟩ : Str) = V.str (Str.ofString "<")) = true from decide_eq_true (by rw [hc, s_lt])]
          refine ⟨_, rfl, .int (a : Nat), rfl, _, _, rfl, rfl, _, rfl, ?_⟩
          rw [hc] at hd
          rcases find_is x a hax with ⟨hno, hf⟩ | ⟨hyes, hf, hlt⟩
          · rw [hf, show decide (((a : Nat) : Int) < -1) = false from decide_eq_false (by omega)]
            refine ⟨_, rfl, _, rfl, by decide, _, _, rfl, rfl, _, rfl, ?_⟩
            rw [show decide ((0 : Int) < ((Str.ofString "").length : Nat)) = false from by decide +kernel]
            refine ⟨_, rfl, ?_⟩
            refine ⟨.ref l, rfl, .inl ⟨rfl, _, SqL.of dG⟩, .str x, rfl, .int (a : Nat), rfl, x, (a : Nat), (cp x)[a], rfl, rfl, szT _ (by omega), at_str x a ha, by show 2 ≤ sizeLine; decide, fun tp ntp => ?_⟩
            have s7 := same_upd (o := .tup [.bl false, .str ⟨#[(cp x)[a]]⟩]) ntp
            obtain ⟨qs', us', h1, h2, h3, h4, h5⟩ := other tp ntp (by
              rw [hd]
              refine marks_no fun z => hno ?_
              rw [hd]
              exact List.mem_cons_of_mem _ z.1)
            exact ⟨l, us, .ref tp, rfl, rfl, s7 _ _ dG, small1000 (by omega), .int (a : Nat), rfl, _, 1, rfl, rfl, _, _, _, a + 1, qs', us', rfl, h1, h2, h3, h4, by omega, by omega, h5⟩
          · have hr : 62 ∈ (cp x).drop (a + 1) := by
              rw [hd] at hyes
              rcases List.mem_cons.mp hyes with z | z
              · cases z
              · exact z
            have etw : tw ((cp x).drop a) = 60 :: tw ((cp x).drop (a + 1)) := by
              rw [hd]
              exact List.takeWhile_cons_of_pos (by decide)
            rw [etw, List.length_cons] at hf hlt
            generalize hn : (tw ((cp x).drop (a + 1))).length = n at *
            rw [hf, show decide (((a : Nat) : Int) < ((a + (n + 1) : Nat) : Int)) = true from decide_eq_true (by omega)]
            refine ⟨.str x, rfl, .int (a : Nat), rfl, _, 1, rfl, rfl, ((a + 1 : Nat) : Int), rfl, _, rfl, ((a + (n + 1) : Nat) : Int), rfl, x, rfl, szT _ (by omega), ?_⟩
            have ecut : cp (cutS x (some ((a + 1 : Nat) : Int)) (some ((a + (n + 1) : Nat) : Int))) = tw ((cp x).drop (a + 1)) := by
              rw [cut_nat x (a + 1) (a + (n + 1)) (by omega) (by omega), show a + (n + 1) - (a + 1) = n by omega]
              have hpre : tw ((cp x).drop (a + 1)) = ((cp x).drop (a + 1)).take (tw ((cp x).drop (a + 1))).length := List.prefix_iff_eq_take.mp (List.takeWhile_prefix _)
              rw [hn] at hpre
              exact hpre.symm
            generalize cutS x (some ((a + 1 : Nat) : Int)) (some ((a + (n + 1) : Nat) : Int)) = nm at *
            have hnl : nm.length = n := by
              rw [← cp_len, ecut, hn]
            -- the way of what is no name
            have no : isNm (tw ((cp x).drop (a + 1))) = false → marksP ((cp x).drop a) = marksP ((cp x).drop (a + 1)) := fun hnm => by
              rw [hd]
              exact marks_no fun z => by rw [hnm] at z; cases z.2
            refine ⟨.str nm, rfl, nm, rfl, szT _ (by omega), _, _, rfl, rfl, _, rfl, ?_⟩
            by_cases h0 : 0 < n
            · rw [if_pos (decide_eq_true (by omega : (0 : Int) < (nm.length : Nat)))]
              refine ⟨_, _, rfl, rfl, _, rfl, ?_⟩
              by_cases h9 : n < 9
              · rw [show decide (((nm.length : Nat) : Int) < 9) = true from decide_eq_true (by omega)]
                refine ⟨.str nm, rfl, rfl, nm, _, rfl, rfl, szT _ (by omega), rfl, _, rfl, ?_⟩
                have hall : (cp nm).all abc26.cps.contains = (tw ((cp x).drop (a + 1))).all low := by
                  rw [ecut]
                  congr 1
                  funext c
                  exact abc_has c
                have hst := strip_is nm abc26
                rw [hall] at hst
                have hin : isNm (tw ((cp x).drop (a + 1))) = (tw ((cp x).drop (a + 1))).all low := by
                  unfold isNm
                  rw [hn, decide_eq_true (by omega : 1 ≤ n), decide_eq_true (by omega : n ≤ 8)]
                  rfl
                cases hlo : (tw ((cp x).drop (a + 1))).all low with
                | true =>
                  rw [show decide (V.str (Txt.stripChars nm (Str.ofString "abcdefghijklmnopqrstuvwxyz")) = V.str (Str.ofString "")) = true from decide_eq_true (congrArg V.str (hst.mpr hlo))]
                  refine ⟨.ref l, rfl, .inl ⟨rfl, _, SqL.of dG⟩, .str nm, rfl, by show 2 ≤ sizeLine; decide, fun tp ntp => ?_⟩
                  have s7 := same_upd (o := .tup [.bl true, .str nm]) ntp
                  refine ⟨l, us, .ref tp, rfl, rfl, s7 _ _ dG, small1000 (by omega), _, rfl, _, 1, rfl, rfl, _, _, _, a + (n + 1) + 1, qs ++ [(true, nm)], us ++ [.ref tp], rfl, same_add nl (Same.trans sG s7), upd_same, RpAll.add1 imm_dQ (s7 _ _ dG) (rG.same s7) (.tup upd_same (.cons (.bl _) (.cons (.str _) .nil))), ?_, by omega, by omega, ?_⟩
                  · rw [List.filterMap_append, List.map_append, ← mG, hd, marks_yes hr (by rw [hin]; exact hlo)]
                    show ((qs.filterMap ofPc).map cp ++ [cp nm]) ++ _ = _
                    rw [ecut, List.append_assoc, hn, List.drop_drop, show a + 1 + (n + 1) = a + (n + 1) + 1 by omega]
                    rfl
                  · rw [List.length_append, List.length_singleton]
                    omega
                | false =>
                  rw [show decide (V.str (Txt.stripChars nm (Str.ofString "abcdefghijklmnopqrstuvwxyz")) = V.str (Str.ofString "")) = false from decide_eq_false fun e => by
                    have e2 : Txt.stripChars nm abc26 = Str.empty := V.str.inj e
                    rw [hst.mp e2] at hlo
                    cases hlo]
                  refine ⟨.ref l, rfl, .inl ⟨rfl, _, SqL.of dG⟩, .str x, rfl, .int (a : Nat), rfl, x, (a : Nat), (cp x)[a], rfl, rfl, szT _ (by omega), at_str x a ha, by show 2 ≤ sizeLine; decide, fun tp ntp => ?_⟩
                  have s7 := same_upd (o := .tup [.bl false, .str ⟨#[(cp x)[a]]⟩]) ntp
                  obtain ⟨qs', us', h1, h2, h3, h4, h5⟩ := other tp ntp (no (by rw [hin]; exact hlo))
                  exact ⟨l, us, .ref tp, rfl, rfl, s7 _ _ dG, small1000 (by omega), .int (a : Nat), rfl, _, 1, rfl, rfl, _, _, _, a + 1, qs', us', rfl, h1, h2, h3, h4, by omega, by omega, h5⟩
              · rw [show decide (((nm.length : Nat) : Int) < 9) = false from decide_eq_false (by omega)]
                refine ⟨.ref l, rfl, .inl ⟨rfl, _, SqL.of dG⟩, .str x, rfl, .int (a : Nat), rfl, x, (a : Nat), (cp x)[a], rfl, rfl, szT _ (by omega), at_str x a ha, by show 2 ≤ sizeLine; decide, fun tp ntp => ?_⟩
                have s7 := same_upd (o := .tup [.bl false, .str ⟨#[(cp x)[a]]⟩]) ntp
                obtain ⟨qs', us', h1, h2, h3, h4, h5⟩ := other tp ntp (no (by unfold isNm; rw [hn, decide_eq_false (by omega : ¬ n ≤ 8), Bool.and_false, Bool.false_and]))
                exact ⟨l, us, .ref tp, rfl, rfl, s7 _ _ dG, small1000 (by omega), .int (a : Nat), rfl, _, 1, rfl, rfl, _, _, _, a + 1, qs', us', rfl, h1, h2, h3, h4, by omega, by omega, h5⟩
            · rw [if_neg (by simp; omega)]
              refine ⟨_, rfl, ?_⟩
              refine ⟨.ref l, rfl, .inl ⟨rfl, _, SqL.of dG⟩, .str x, rfl, .int (a : Nat), rfl, x, (a : Nat), (cp x)[a], rfl, rfl, szT _ (by omega), at_str x a ha, by show 2 ≤ sizeLine; decide, fun tp ntp => ?_⟩
              have s7 := same_upd (o := .tup [.bl false, .str ⟨#[(cp x)[a]]⟩]) ntp
              obtain ⟨qs', us', h1, h2, h3, h4, h5⟩ := other tp ntp (no (by unfold isNm; rw [hn, decide_eq_false (by omega : ¬ 1 ≤ n), Bool.false_and, Bool.false_and]))
              exact ⟨l, us, .ref tp, rfl, rfl, s7 _ _ dG, small1000 (by omega), .int (a : Nat), rfl, _, 1, rfl, rfl, _, _, _, a + 1, qs', us', rfl, h1, h2, h3, h4, by omega, by omega, h5⟩
        · rw [show decide (V.str (⟨#[(cp x)[a]]⟩ : Str) = V.str (Str.ofString "<")) = false from decide_eq_false fun e => hc (by
            rw [s_lt] at e
            have e2 := congrArg (fun s : Str => s.cps.toList) (V.str.inj e)
            simpa using e2)]
          refine ⟨_, rfl, _, rfl, by decide, _, _, rfl, rfl, _, rfl, ?_⟩
          rw [show decide ((0 : Int) < ((Str.ofString "").length : Nat)) = false from by decide +kernel]
          refine ⟨_, rfl, ?_⟩
          refine ⟨.ref l, rfl, .inl ⟨rfl, _, SqL.of dG⟩, .str x, rfl, .int (a : Nat), rfl, x, (a : Nat), (cp x)[a], rfl, rfl, szT _ (by omega), at_str x a ha, by show 2 ≤ sizeLine; decide, fun tp ntp => ?_⟩
          have s7 := same_upd (o := .tup [.bl false, .str ⟨#[(cp x)[a]]⟩]) ntp
          obtain ⟨qs', us', h1, h2, h3, h4, h5⟩ := other tp ntp (by
            rw [hd]
            exact marks_skip _ hc)
          exact ⟨l, us, .ref tp, rfl, rfl, s7 _ _ dG, small1000 (by omega), .int (a : Nat), rfl, _, 1, rfl, rfl, _, _, _, a + 1, qs', us', rfl, h1, h2, h3, h4, by omega, by omega, h5⟩
      · have h : ¬ ((a : Nat) : Int) < ((x.length : Nat) : Int) := fun z => h (decide_eq_true z)
        exact ⟨_, _, _, a, qs, us, rfl, sG, dG, rG, mG, by omega, hax, by omega⟩
    · rintro σ G ⟨y3, y4, y5, a, qs, us, rfl, sG, dG, rG, mG, hia, hax, hqi⟩
      have hia : ((x.length : Nat) : Int).toNat ≤ a := hia
      have ha : a = x.length := by rw [Int.toNat_natCast] at hia; omega
      rw [List.drop_eq_nil_of_le (by rw [hcl, ha]; exact Nat.le_refl _), marks_nil, List.append_nil] at mG
      exact ⟨.ref l, rfl, q _ _ qs sG nl (.lst dG rG) mG (by omega)⟩
end
end Sg

namespace Sg
open PySem PySem.Spec PyProof.Rows L2
def oneG {α : Type} : List α → List α → List α
  | [], [x] => [x]
  | _, _ => []
theorem oneG_rel {vs zs : List V} {us ws : List Value} (r1 : Vals vs us) (r2 : Vals zs ws) : Vals (oneG vs zs) (oneG us ws) := by
  cases r1 with
  | cons _ _ => exact .nil
  | nil =>
    cases r2 with
    | nil => exact .nil
    | cons a r3 =>
      cases r3 with
      | nil => exact .cons a .nil
      | cons _ _ => exact .nil
theorem kb_one {K : PySem.W.Frag} {x : Str} {st : Stmt} {f : Addr} {fd : FuncData} (F : Fun K x x st f fd) {a : Str}
    (h : ∀ (kV doc pm : Value) (an : Option Addr) (cdv ct : Value) (u : Value), bindArgs (PySem.W.fnOf x x (defArgs st) (defBody st) (defScope st) .none kV doc pm an cdv ct) ⟨[], [(a, u)]⟩ = pure [(a, u)]) : KBinds K fd [a] [a] oneG oneG := by
  obtain ⟨oc, od, kV, doc, pm, an, cdv, ct, osl, rfl, lk, hcd⟩ := F.ex
  refine ⟨fun s us ws _ hl => ?_, oneG_rel⟩
  match us, ws, hl with
  | [], [u], _ => exact .of_eq (h kV doc pm an cdv ct u)
abbrev sText : Stmt := topS 12
abbrev nText : List Str := ["_law_tape_here", "_law_marks", "_law_some", "_law_found", "_law_k", "_law_more"]
theorem scText : FnScope nText ["_law_tape_here", "_law_marks"] (defScope sText) := ⟨rfl, rfl, rfl, by decide +kernel, rfl, by decide +kernel, by decide +kernel⟩
abbrev sBent : Stmt := topS 14
abbrev nBent : List Str := ["_law_tape_here", "_law_written", "_law_signs", "_law_at", "_law_way", "_law_sign", "_law_some"]
theorem scBent : FnScope nBent ["_law_tape_here", "_law_written"] (defScope sBent) := ⟨rfl, rfl, rfl, by decide +kernel, rfl, by decide +kernel, by decide +kernel⟩
abbrev lits : List Str := [Str.ofString "ab", Str.ofString "Word", Str.ofString " ", Str.ofString "x1", Str.ofString "<", Str.ofString ">", Str.ofString "<>", Str.ofString "<Ab>", Str.ofString "~", Str.ofString "tail ", Str.ofString "<ab", Str.ofString "&", Str.ofString ".", Str.ofString "9"]
theorem lits_len : ∀ z ∈ lits, z.length ≤ 16 := by decide +kernel
theorem str_at' {ws : List Str} {r : Int} (h0 : 0 ≤ r) (h : r < ws.length) : ∃ m ∈ ws, atI (ws.map V.str) r = some (.str m) := by
  obtain ⟨j, rfl⟩ : ∃ j : Nat, r = j := ⟨r.toNat, by omega⟩
  have hj : j < ws.length := by omega
  refine ⟨ws[j], List.getElem_mem hj, atI_nat ?_⟩
  rw [List.getElem?_map, List.getElem?_eq_getElem hj]
  rfl
theorem Ex.upd_free {t p : Addr} {H H' : Hp} {o : HO} (s : Ex t H H') (h : H p = none) : Ex t H (L2.upd H' p o) := fun c u n e => by
  rw [upd_ne (fun z => by subst z; rw [h] at e; cases e)]
  exact s c u n e
section
variable {P : Program} {w : World} {K : PySem.W.Frag} {mg : Str → Option Value} {base : Heap}
def spText : Sp := fun vs H Q _ => ∃ (t a : Addr) (ms : List Str) (n : Nat), vs = [.ref t, .ref a] ∧ H a = some (.lst (ms.map V.str)) ∧ a ≠ t ∧ (∀ m ∈ ms, m.length ≤ 16 ∧ PyData.strOk m = true) ∧ 1 ≤ ms.length ∧ ms.length ≤ 100 ∧ TapeAt H t n ∧ n ≤ 900000 ∧ ∀ (x : Str) (H' : Hp), Ex t H H' → TapeAt H' t (n + 20) → x.length ≤ 40 → Q (.str x) H'
theorem ok_text {f fD : Addr} {fd fdD : FuncData} {k : Nat} (F : Fun K "_law_text" "_law_text" sText f fd) (FD : Fun K "_law_draw" "_law_draw" sDraw fD fdD) (bD : Binds K fdD ["_law_tape_here", "_law_many"] []) (gD : mg "_law_draw" = some (.ref fD)) (ml : mg "len" = none) (mr : mg "range" = none) : FnOk P w K mg base CX0 (k + 2) f fd ["_law_tape_here", "_law_marks"] spText := by
  have GD : FnOk P w K mg base CX0 (k + 1) fD fdD ["_law_tape_here", "_law_many"] spDraw := ok_draw FD
  refine F.ok scText (fun vs H Q E h => ?_) (fun cdv A outer s H vs Q E hr h => ?_)
  · obtain ⟨t, a, ms, n, rfl, _⟩ := h
    rfl
  · obtain ⟨t, a, ms, n, rfl, ha, hat, hms, hm1, hm2, hT, hn, q⟩ := h
    refine ⟨_, pss_cons (ps_set (i := 2) scText.nd rfl (.inl rfl) (pe_lst (pa_cons pe_str (pa_cons pe_str (pa_cons pe_str (pa_cons pe_str (pa_cons pe_str (pa_cons pe_str (pa_cons pe_str (pa_cons pe_str (pa_cons pe_str (pa_cons pe_str (pa_cons pe_str (pa_cons pe_str (pa_cons pe_str (pa_cons pe_str pa_nil))))))))))))))))
      (pss_cons (ps_set (i := 3) scText.nd rfl (.inl rfl) pe_str)
      (pss_cons (ps_for PassesOwn.never rfl (pi_range1 rfl mr (pa_cons (pe_call GD hr (by rfl) gD FD.kp bD .nil pass0 (pa_cons (pv 0) (pa_cons pe_int pa_nil))) pa_nil)) (pg_name (i := 4) scText.nd rfl (.inl rfl))
        (pss_cons (ps_if (PW.pt (pw_and (pt_cmpR (op_neD hr.units) (pv 1) (pe_lst pa_nil) (nomark _)) (pw_and1 (pt_cmpR op_eq (pe_call GD hr (by rfl) gD FD.kp bD .nil pass0 (pa_cons (pv 0) (pa_cons pe_int pa_nil))) pe_int (nomark _)))))
          (pss_one (ps_set (i := 5) scText.nd rfl (.inl rfl) (pe_op op_add_str (pe_op op_add_str pe_str (pe_ix ix_list (pv 1) (pe_call GD hr (by rfl) gD FD.kp bD .nil pass0 (pa_cons (pv 0) (pa_cons (pe_callB call_len_seq (by rfl) ml PySem.boot_len (pa_cons (pv 1) pa_nil)) pa_nil))) (fun _ _ => rfl))) pe_str)))
          (pss_one (ps_set (i := 5) scText.nd rfl (.inl rfl) (pe_ix ix_list (pv 2) (pe_call GD hr (by rfl) gD FD.kp bD .nil pass0 (pa_cons (pv 0) (pa_cons pe_int pa_nil))) (fun _ _ => rfl)))))
        (pss_one (ps_if (pt_cmpR op_le (pe_callB call_len_str (by rfl) ml PySem.boot_len (pa_cons (pe_op op_add_str (pv 3) (pv 5)) pa_nil)) pe_int (nomark _)) (pss_one (ps_set (i := 3) scText.nd rfl (.inl rfl) (pe_op op_add_str (pv 3) (pv 5)))) pss_nil))))
      (pss_one (ps_ret (pv 3))))), ?_⟩
    have hne : PyData.eqv (.list (ms.map .str)) (.list []) = false := by
      rw [eqv_nil_l]
      cases ms with
      | nil => simp at hm1
      | cons _ _ => rfl
    have hsh : SeqAt.shaped (.list (ms.map .str)) = true := by
      refine shaped_of (canLayAll_map (f := PyData.str) fun m hm => (hms m hm).2) ?_
      show PyData.depthAll (ms.map .str) + 1 ≤ 64
      have := depthAll_map (k := 0) (f := PyData.str) (xs := ms) fun _ _ => Nat.le_refl _
      omega
    refine ⟨by show 14 ≤ sizeLine; decide, fun sl nsl => ?_⟩
    have nslt := hT.ne_none nsl
    have s1 := same_upd (o := .lst (lits.map V.str)) nsl
    have T1 := hT.upd (o := .lst (lits.map V.str)) nslt
    have esl : upd H sl (.lst (lits.map V.str)) sl = some (.lst (lits.map V.str)) := upd_same
    have ha1 := s1 _ _ ha
    refine ⟨.ref t, rfl, t, 5, n, rfl, by decide, by decide, T1, by omega, fun r H2 x2 T2 hr0 hr1 => ⟨r, rfl, by omega, by omega, ?_⟩⟩
    refine for_it (walk_range (lo := 0)) (fun i σ G => ∃ (y4 y5 : Option V) (f' : Str), σ = [some (.ref t), some (.ref a), some (.ref sl), some (.str f'), y4, y5] ∧ Ex t (upd H sl (.lst (lits.map V.str))) G ∧ TapeAt G t (n + 1 + 2 * i) ∧ f'.length ≤ 40)
      ⟨none, none, Str.ofString "", rfl, x2, T2, by decide⟩ (fun _ _ _ _ _ => trivial) ?_ ?_
    · rintro i v σ G0 G hi ⟨y4, y5, f', rfl, xG, TG, hf'⟩ ⟨rfl, rfl⟩
      have aG := xG _ _ hat ha1
      have sG := xG _ _ nslt esl
      refine ⟨.ref a, rfl, Nat.zero_le _, fun z nz => ?_⟩
      have sz := same_upd (o := .lst []) nz
      refine ⟨.list (ms.map .str), .list [], Rp.dp (.lst (sz _ _ aG) (RpAll.strs ms)), Rp.dp (.lst upd_same .nil), hsh, by decide, _, rfl, ?_⟩
      rw [hne]
      have Tz := TG.upd (o := .lst []) (TG.ne_none nz)
      refine ⟨.ref t, rfl, t, 3, n + 1 + 2 * i, rfl, by decide, by decide, Tz, by omega, fun r1 H3 x3 T3 h30 h31 => ⟨rfl, _, rfl, ite2 (fun h0 => ?_) (fun h0 => ?_)⟩⟩
      · have aH := x3 _ _ hat (sz _ _ aG)
        refine ⟨.ref a, rfl, .ref t, rfl, .ref a, rfl, a, _, rfl, .inl (SqL.of aH), t, _, n + 1 + 2 * i + 1, rfl, by rw [List.length_map]; omega, by rw [List.length_map]; omega, T3, by omega, fun r2 H4 x4 T4 h40 h41 => ?_⟩
        rw [List.length_map] at h41
        obtain ⟨m0, hm0, hat0⟩ := str_at' h40 h41
        have hml := (hms m0 hm0).1
        have hmm : (Str.ofString "<" ++ m0 ++ Str.ofString ">").length ≤ 18 := by
          rw [cp_add, cp_add]
          show 1 + m0.length + 1 ≤ 18
          omega
        refine ⟨a, _, r2, _, rfl, rfl, SqL.of (x4 _ _ hat aH), hat0, _, m0, rfl, rfl, szT _ (by show 1 + m0.length ≤ _; omega), _, _, rfl, rfl, szT _ (by rw [cp_add]; show 1 + m0.length + 1 ≤ _; omega), ?_⟩
        have xx : Ex t (upd H sl (.lst (lits.map V.str))) H4 := ((xG.trans (Same.ex sz)).trans x3).trans x4
        generalize Str.ofString "<" ++ m0 ++ Str.ofString ">" = m at *
        refine ⟨.str f', rfl, .str m, rfl, f', m, rfl, rfl, szT _ (by omega), _, rfl, szT _ (by rw [cp_add]; omega), _, 40, rfl, rfl, _, rfl, ite2 (fun h => ⟨.str f', rfl, .str m, rfl, f', m, rfl, rfl, szT _ (by omega), _, _, f' ++ m, rfl, ?_, ?_, ?_⟩) (fun h => ⟨_, _, f', rfl, ?_, ?_, hf'⟩)⟩
        · exact xx
        · exact T4.mono (by omega)
        · have := of_decide_eq_true h
          rw [cp_add] at this ⊢
          omega
        · exact xx
        · exact T4.mono (by omega)
      · have sH := x3 _ _ nslt (sz _ _ sG)
        refine ⟨.ref sl, rfl, .ref t, rfl, t, 14, n + 1 + 2 * i + 1, rfl, by decide, by decide, T3, by omega, fun r2 H4 x4 T4 h40 h41 => ?_⟩
        obtain ⟨m, hm0, hat0⟩ := str_at' (ws := lits) h40 h41
        have hmm := lits_len m hm0
        refine ⟨sl, _, r2, _, rfl, rfl, SqL.of (x4 _ _ nslt sH), hat0, ?_⟩
        have xx : Ex t (upd H sl (.lst (lits.map V.str))) H4 := ((xG.trans (Same.ex sz)).trans x3).trans x4
        refine ⟨.str f', rfl, .str m, rfl, f', m, rfl, rfl, szT _ (by omega), _, rfl, szT _ (by rw [cp_add]; omega), _, 40, rfl, rfl, _, rfl, ite2 (fun h => ⟨.str f', rfl, .str m, rfl, f', m, rfl, rfl, szT _ (by omega), _, _, f' ++ m, rfl, ?_, ?_, ?_⟩) (fun h => ⟨_, _, f', rfl, ?_, ?_, hf'⟩)⟩
        · exact xx
        · exact T4.mono (by omega)
        · have := of_decide_eq_true h
          rw [cp_add] at this ⊢
          omega
        · exact xx
        · exact T4.mono (by omega)
    · rintro σ G ⟨y4, y5, f', rfl, xG, TG, hf'⟩
      exact ⟨.str f', rfl, q _ _ ((Same.ex s1).trans xG) (TG.mono (by omega)) hf'⟩
/-! ### bent -/
theorem cut40 (z : Str) : (cutS z none (some (40 : Int))).length ≤ 40 := by
  rw [← cp_len]
  show (((z.cps.toList.drop (HT.sIx z.length 0 none)).take (HT.sIx z.length z.length (some ((40 : Nat) : Int)) - HT.sIx z.length 0 none)).toArray.toList).length ≤ 40
  rw [HT.sIx_nat]
  simp only [List.length_take]
  omega
def spBent : Sp := fun vs H Q _ => ∃ (t : Addr) (x : Str) (n : Nat), vs = [.ref t, .str x] ∧ x.length ≤ 40 ∧ TapeAt H t n ∧ n ≤ 900000 ∧ ∀ (y : Str) (H' : Hp), Ex t H H' → TapeAt H' t (n + 3) → y.length ≤ 40 → Q (.str y) H'
theorem ok_bent {f fD : Addr} {fd fdD : FuncData} {k : Nat} (F : Fun K "_law_bent" "_law_bent" sBent f fd) (FD : Fun K "_law_draw" "_law_draw" sDraw fD fdD) (bD : Binds K fdD ["_law_tape_here", "_law_many"] []) (gD : mg "_law_draw" = some (.ref fD)) (ml : mg "len" = none) (mm : mg "max" = none) : FnOk P w K mg base CX0 (k + 2) f fd ["_law_tape_here", "_law_written"] spBent := by
  have GD : FnOk P w K mg base CX0 (k + 1) fD fdD ["_law_tape_here", "_law_many"] spDraw := ok_draw FD
  refine F.ok scBent (fun vs H Q E h => ?_) (fun cdv A outer s H vs Q E hr h => ?_)
  · obtain ⟨t, x, n, rfl, _⟩ := h
    rfl
  · obtain ⟨t, x, n, rfl, hl, hT, hn, q⟩ := h
    refine ⟨_, pss_cons (ps_par3 (i := 2) (j := 3) (l := 4) rfl scBent.nd rfl rfl rfl (by decide) (by decide) (by decide) rfl rfl rfl (pa_cons pe_str (pa_cons (pe_call GD hr (by rfl) gD FD.kp bD .nil pass0 (pa_cons (pv 0) (pa_cons (pe_op op_add (pe_callB call_len_str (by rfl) ml PySem.boot_len (pa_cons (pv 1) pa_nil)) pe_int) pa_nil))) (pa_cons (pe_call GD hr (by rfl) gD FD.kp bD .nil pass0 (pa_cons (pv 0) (pa_cons pe_int pa_nil))) pa_nil))) rfl)
      (pss_cons (ps_set (i := 5) scBent.nd rfl (.inl rfl) (pe_ix ix_str (pv 2) (pe_call GD hr (by rfl) gD FD.kp bD .nil pass0 (pa_cons (pv 0) (pa_cons pe_int pa_nil))) (fun _ _ => rfl)))
      (pss_cons (ps_set (i := 6) scBent.nd rfl (.inl rfl) (pe_lst (pa_cons (pe_op op_add_str (pe_op op_add_str (pe_slice sl_str (pv 1) po_none (po_some (pv 3))) (pv 5)) (pe_slice sl_str (pv 1) (po_some (pv 3)) po_none)) (pa_cons (pe_op op_add_str (pe_slice sl_str (pv 1) po_none (po_some (pv 3))) (pe_slice sl_str (pv 1) (po_some (pe_op op_add (pv 3) pe_int)) po_none)) (pa_cons (pe_op op_add_str (pe_op op_add_str (pe_slice sl_str (pv 1) po_none (po_some (pv 3))) (pv 5)) (pe_slice sl_str (pv 1) (po_some (pe_op op_add (pv 3) pe_int)) po_none)) pa_nil)))))
      (pss_one (ps_ret (pe_slice sl_str (pe_ix ix_list (pe_op op_cat (pv 6) (pe_lst (pa_cons (pe_op op_add_str (pe_slice sl_str (pv 1) po_none (po_some (pv 3))) (pe_slice sl_str (pv 1) (po_some (pe_callB (call_max2 rfl) (by rfl) mm (by decide +kernel) (pa_cons pe_int (pa_cons (pe_op op_sub (pv 3) pe_int) pa_nil)))) po_none)) pa_nil))) (pv 4) (fun _ _ => rfl)) po_none (po_some pe_int)))))), ?_⟩
    have hw : ∀ lo hi, (cutS x lo hi).length ≤ 40 := fun lo hi => Nat.le_trans (cutS_length x lo hi) hl
    refine ⟨.ref t, rfl, .str x, rfl, x, rfl, szT _ (by omega), _, 1, rfl, rfl, t, _, n, rfl, by omega, by omega, hT, by omega, fun at' H1 x1 T1 h10 h11 => ⟨.ref t, rfl, t, 4, n + 1, rfl, by decide, by decide, T1, by omega, fun way H2 x2 T2 h20 h21 => ⟨_, _, _, rfl, ?_⟩⟩⟩
    refine ⟨_, rfl, .ref t, rfl, t, 12, n + 2, rfl, by decide, by decide, T2, by omega, fun r H3 x3 T3 h30 h31 => ?_⟩
    obtain ⟨c, hc⟩ : ∃ c : Nat, atI (Str.ofString "<<>>ab z9A~&").cps.toList r = some c := by
      obtain ⟨j, rfl⟩ : ∃ j : Nat, r = j := ⟨r.toNat, by omega⟩
      have hlen : (Str.ofString "<<>>ab z9A~&").cps.toList.length = 12 := by decide +kernel
      exact ⟨_, atI_nat (List.getElem?_eq_getElem (by omega))⟩
    refine ⟨_, r, c, rfl, rfl, by decide +kernel, hc, ?_⟩
    have hc1 : (⟨#[c]⟩ : Str).length = 1 := rfl
    have x03 : Ex t H H3 := (x1.trans x2).trans x3
    refine ⟨.str x, rfl, .int at', rfl, at', rfl, x, rfl, szT _ (by omega), .str ⟨#[c]⟩, rfl, _, _, rfl, rfl, szT _ (by (try simp only [cp_add]); have := hw none (some at'); have := hw (some at') none; have := hw (some (at' + 1)) none; omega), .str x, rfl, .int at', rfl, at', rfl, x, rfl, szT _ (by omega), _, _, rfl, rfl, szT _ (by (try simp only [cp_add]); have := hw none (some at'); have := hw (some at') none; have := hw (some (at' + 1)) none; omega), .str x, rfl, .int at', rfl, at', rfl, x, rfl, szT _ (by omega), .str x, rfl, .int at', rfl, at', 1, rfl, rfl, at' + 1, rfl, x, rfl, szT _ (by omega), _, _, rfl, rfl, szT _ (by (try simp only [cp_add]); have := hw none (some at'); have := hw (some at') none; have := hw (some (at' + 1)) none; omega), .str x, rfl, .int at', rfl, at', rfl, x, rfl, szT _ (by omega), .str ⟨#[c]⟩, rfl, _, _, rfl, rfl, szT _ (by (try simp only [cp_add]); have := hw none (some at'); have := hw (some at') none; have := hw (some (at' + 1)) none; omega), .str x, rfl, .int at', rfl, at', 1, rfl, rfl, at' + 1, rfl, x, rfl, szT _ (by omega), _, _, rfl, rfl, szT _ (by (try simp only [cp_add]); have := hw none (some at'); have := hw (some at') none; have := hw (some (at' + 1)) none; omega), by show 3 ≤ sizeLine; decide, fun l nl => ?_⟩
    have sl := same_upd (o := .lst [.str (cutS x none (some at') ++ ⟨#[c]⟩ ++ cutS x (some at') none), .str (cutS x none (some at') ++ cutS x (some (at' + 1)) none), .str (cutS x none (some at') ++ ⟨#[c]⟩ ++ cutS x (some (at' + 1)) none)]) nl
    have hw4 := hw (some (if at' - 4 > 0 then at' - 4 else 0)) none
    refine ⟨.ref l, rfl, .str x, rfl, .int at', rfl, at', rfl, x, rfl, szT _ (by omega), .str x, rfl, .int at', rfl, at', 4, rfl, rfl, 0, at' - 4, rfl, (if at' - 4 > 0 then at' - 4 else 0), rfl, x, rfl, szT _ (by omega), _, _, rfl, rfl, szT _ (by have := hw none (some at'); omega), by show 1 ≤ sizeLine; decide, fun l2 nl2 => ?_⟩
    have s2 := same_upd (o := .lst [.str (cutS x none (some at') ++ cutS x (some (if at' - 4 > 0 then at' - 4 else 0)) none)]) nl2
    refine ⟨l, l2, _, _, rfl, rfl, s2 _ _ upd_same, upd_same, by show 4 ≤ sizeLine; decide, fun l3 nl3 => ?_⟩
    have hall : ∀ y ∈ [cutS x none (some at') ++ (⟨#[c]⟩ : Str) ++ cutS x (some at') none, cutS x none (some at') ++ cutS x (some (at' + 1)) none, cutS x none (some at') ++ (⟨#[c]⟩ : Str) ++ cutS x (some (at' + 1)) none, cutS x none (some at') ++ cutS x (some (if at' - 4 > 0 then at' - 4 else 0)) none], y.length ≤ 100 := by
      have h1 := hw none (some at')
      have h2 := hw (some at') none
      have h3 := hw (some (at' + 1)) none
      intro y hy
      simp only [List.mem_cons, List.not_mem_nil, or_false] at hy
      rcases hy with rfl | rfl | rfl | rfl <;> simp only [cp_add, hc1] <;> omega
    obtain ⟨y, hy, hyat⟩ := str_at' (ws := [cutS x none (some at') ++ (⟨#[c]⟩ : Str) ++ cutS x (some at') none, cutS x none (some at') ++ cutS x (some (at' + 1)) none, cutS x none (some at') ++ (⟨#[c]⟩ : Str) ++ cutS x (some (at' + 1)) none, cutS x none (some at') ++ cutS x (some (if at' - 4 > 0 then at' - 4 else 0)) none]) h20 h21
    have hyl := hall y hy
    have n3 := T3.ne_none nl
    have T4 := T3.same sl
    have T5 := T4.same s2
    have s3 := same_upd (o := .lst ([.str (cutS x none (some at') ++ ⟨#[c]⟩ ++ cutS x (some at') none), .str (cutS x none (some at') ++ cutS x (some (at' + 1)) none), .str (cutS x none (some at') ++ ⟨#[c]⟩ ++ cutS x (some (at' + 1)) none)] ++ [.str (cutS x none (some at') ++ cutS x (some (if at' - 4 > 0 then at' - 4 else 0)) none)])) nl3
    refine ⟨.int way, rfl, l3, _, way, _, rfl, rfl, SqL.of upd_same, hyat, 40, rfl, y, rfl, szT _ (by omega), ?_⟩
    exact q _ _ (x03.trans (Same.ex (Same.trans sl (Same.trans s2 s3)))) (T5.same s3) (cut40 y)
end
end Sg

namespace Sg
open PySem PySem.Spec PyProof.Rows L2
abbrev sRight : Stmt := topS 15
abbrev nRight : List Str := ["_law_tape_here", "_law_names_here", "_law_turn", "_law_written", "_law_again", "_law_due", "_law_told", "_law_known", "_law_marked", "_law_piece"]
theorem scRight : FnScope nRight ["_law_tape_here"] (defScope sRight) := ⟨rfl, rfl, rfl, by decide +kernel, rfl, by decide +kernel, by decide +kernel⟩
abbrev lits4 : List Str := [Str.ofString "abcdefghi", Str.ofString "a1", Str.ofString "Ab", Str.ofString ""]
theorem lits4_ok : ∀ m ∈ lits4, m.length ≤ 16 ∧ PyData.strOk m = true := by decide +kernel
theorem cp_inj : ∀ {xs ys : List Str}, xs.map cp = ys.map cp → xs = ys
  | [], [], _ => rfl
  | [], _ :: _, h => by cases h
  | _ :: _, [], h => by cases h
  | x :: xs, y :: ys, h => by
    rw [List.map_cons, List.map_cons] at h
    have h2 := List.cons.inj h
    rw [cp_ext h2.1, cp_inj h2.2]
theorem fit_strs (n : Nat) (ws : List Str) (h : ws.length ≤ 1000) : Fit (n + 1) (.list (ws.map PyData.str)) := ⟨by rw [List.length_map]; exact h, fun d hd => by
  obtain ⟨x, _, rfl⟩ := List.mem_map.mp hd
  cases n <;> trivial⟩
abbrev kn : Str := Str.ofString "a<b><<c>d><ef<g>><hijklmnop><hijklmno>< a><>"
theorem kn1 : marksP (cp (cutS kn none (some (40 : Int)))) = [Str.ofString "b", Str.ofString "c", Str.ofString "g", Str.ofString "hijklmno"].map cp := by decide +kernel
theorem kn2 : marksP (cp (Str.ofString "<hijklmno>>")) = [Str.ofString "hijklmno"].map cp := by decide +kernel
section
variable {P : Program} {w : World} {K : PySem.W.Frag} {mg : Str → Option Value} {base : Heap}
def spRight : Sp := fun vs H Q _ => ∃ (t : Addr), vs = [.ref t] ∧ TapeAt H t 0 ∧ ∀ (H' : Hp), Ex t H H' → Q (.bl true) H'
theorem ok_right {f fD fN fT fB fP fM fS : Addr} {fd fdD fdN fdT fdB fdP fdM fdS : FuncData} (F : Fun K "_law_right" "_law_right" sRight f fd)
    (FD : Fun K "_law_draw" "_law_draw" sDraw fD fdD) (bD : Binds K fdD ["_law_tape_here", "_law_many"] []) (gD : mg "_law_draw" = some (.ref fD)) (GD : FnOk P w K mg base CX0 5 fD fdD ["_law_tape_here", "_law_many"] spDraw)
    (FN : Fun K "_law_names" "_law_names" sNames fN fdN) (bN : Binds K fdN ["_law_tape_here", "_law_many"] []) (gN : mg "_law_names" = some (.ref fN)) (GN : FnOk P w K mg base CX0 5 fN fdN ["_law_tape_here", "_law_many"] spNames)
    (FT : Fun K "_law_text" "_law_text" sText fT fdT) (bT : Binds K fdT ["_law_tape_here", "_law_marks"] []) (gT : mg "_law_text" = some (.ref fT)) (GT : FnOk P w K mg base CX0 5 fT fdT ["_law_tape_here", "_law_marks"] spText)
    (FB : Fun K "_law_bent" "_law_bent" sBent fB fdB) (bB : Binds K fdB ["_law_tape_here", "_law_written"] []) (gB : mg "_law_bent" = some (.ref fB)) (GB : FnOk P w K mg base CX0 5 fB fdB ["_law_tape_here", "_law_written"] spBent)
    (FP : Fun K "_law_split" "_law_split" sSplit fP fdP) (bP : Binds K fdP ["_law_written"] []) (gP : mg "_law_split" = some (.ref fP)) (GP : FnOk P w K mg base CX0 5 fP fdP ["_law_written"] spSplit)
    (FM : Fun K "marks_in" "marks_in" sMarks fM fdM) (bM : Binds K fdM ["text"] []) (kM : KBinds K fdM ["text"] ["text"] oneG oneG) (gM : mg "marks_in" = some (.ref fM)) (GM : FnOk P w K mg base CX0 5 fM fdM ["text"] spMarks)
    (FS : Fun K "_law_same" "_law_same" sSame fS fdS) (bS : Binds K fdS ["_law_found", "_law_due"] []) (gS : mg "_law_same" = some (.ref fS)) (GS : FnOk P w K mg base CX0 5 fS fdS ["_law_found", "_law_due"] (spSame 5))
    (mr : mg "range" = none) : FnOk P w K mg base CX0 6 f fd ["_law_tape_here"] spRight := by
  refine F.ok scRight (fun vs H Q E h => ?_) (fun cdv A outer s H vs Q E hr h => ?_)
  · obtain ⟨t, rfl, _⟩ := h
    rfl
  · obtain ⟨t, rfl, hT, q⟩ := h
    refine ⟨_, (pss_cons (ps_set (i := 1) scRight.nd rfl (.inl rfl) (pe_call GN hr (by rfl) gN FN.kp bN .nil pass0 (pa_cons (pv 0) (pa_cons pe_int pa_nil))))
        (pss_cons (ps_for PassesOwn.never rfl (pi_range1 rfl mr (pa_cons pe_int pa_nil)) (pg_name (i := 2) scRight.nd rfl (.inl rfl))
        (pss_cons (ps_set (i := 3) scRight.nd rfl (.inl rfl) (pe_call GT hr (by rfl) gT FT.kp bT .nil pass0 (pa_cons (pv 0) (pa_cons (pe_op op_cat (pv 1) (pe_lst (pa_cons pe_str (pa_cons pe_str (pa_cons pe_str (pa_cons pe_str pa_nil)))))) pa_nil))))
        (pss_cons (ps_for PassesOwn.never rfl (pi_range1 rfl mr (pa_cons (pe_call GD hr (by rfl) gD FD.kp bD .nil pass0 (pa_cons (pv 0) (pa_cons pe_int pa_nil))) pa_nil)) (pg_name (i := 4) scRight.nd rfl (.inl rfl))
        (pss_one (ps_set (i := 3) scRight.nd rfl (.inl rfl) (pe_call GB hr (by rfl) gB FB.kp bB .nil pass0 (pa_cons (pv 0) (pa_cons (pv 3) pa_nil))))))
        (pss_cons (ps_setLc (i := 5) (own := [("_law_marked", 8), ("_law_piece", 9)]) (g := gTup K 2 (gCons (gName 8) (gCons (gName 9) gNil))) (tt := tB (tVar 8)) (te := tVar 9) rfl scRight.nd rfl rfl (sw_true rfl rfl rfl (by decide +kernel)) (pi_list (pe_call GP hr (by rfl) gP FP.kp bP .nil pass0 (pa_cons (pv 3) pa_nil))) (blkOk_by (N := nRight) (sc := defScope sRight) (by decide +kernel)) (fun _ _ _ _ _ => pg_tup rfl (pgs_cons (pg_name (i := 8) scRight.nd rfl (.inl rfl)) (pgs_cons (pg_name (i := 9) scRight.nd rfl (.inl rfl)) pgs_nil))) (fun _ _ _ _ _ => pts_one (pt_val (pv 8))) (fun _ _ _ _ _ => pv 9))
        (pss_cons (ps_set (i := 6) scRight.nd rfl (.inl rfl) (pe_lst (pa_cons (pe_call GM hr (by rfl) gM FM.kp bM .nil pass0 (pa_cons (pv 3) pa_nil)) (pa_cons (pe_callK0 GM hr (by rfl) gM FM.kp kM pass0 (pk_cons (pv 3) pk_nil)) pa_nil))))
        (pss_cons (ps_if (pt_not (pt_val (pe_call GS hr (by rfl) gS FS.kp bS .nil pass0 (pa_cons (pv 6) (pa_cons (pe_lst (pa_cons (pv 5) (pa_cons (pv 5) pa_nil))) pa_nil))))) (pss_one (ps_ret pe_bl)) pss_nil)
        (pss_cons (ps_expr (pe_bm PySem.F.plainAttrs_list PySem.F.slot_list_append PySem.F.type_list_append mt_append (pe_ix ix_list (pv 6) pe_int (fun _ _ => rfl)) (pa_cons pe_str pa_nil)))
        (pss_one (ps_if (pt_not (pt_val (pe_call GS hr (by rfl) gS FS.kp bS .nil pass0 (pa_cons (pe_call GM hr (by rfl) gM FM.kp bM .nil pass0 (pa_cons (pv 3) pa_nil)) (pa_cons (pv 5) pa_nil))))) (pss_one (ps_ret pe_bl)) pss_nil)))))))))
        (pss_cons (ps_set (i := 7) scRight.nd rfl (.inl rfl) pe_str)
        (pss_cons (ps_set (i := 5) scRight.nd rfl (.inl rfl) (pe_lst (pa_cons (pe_lst (pa_cons pe_str (pa_cons pe_str (pa_cons pe_str (pa_cons pe_str pa_nil))))) (pa_cons (pe_lst (pa_cons pe_str pa_nil)) pa_nil))))
        (pss_one (ps_ret (pe_call GS hr (by rfl) gS FS.kp bS .nil pass0 (pa_cons (pe_lst (pa_cons (pe_call GM hr (by rfl) gM FM.kp bM .nil pass0 (pa_cons (pe_slice sl_str (pv 7) po_none (po_some pe_int)) pa_nil)) (pa_cons (pe_call GM hr (by rfl) gM FM.kp bM .nil pass0 (pa_cons pe_str pa_nil)) pa_nil))) (pa_cons (pv 5) pa_nil))))))))), ?_⟩
    refine ⟨.ref t, rfl, t, 6, 0, rfl, by decide, hT, by decide, fun np H1 ws x1 T1 nnp e1 l1 w1 nd1 => ?_⟩
    have nnpt := hT.ne_none nnp
    refine ⟨20, rfl, by decide, by decide, ?_⟩
    refine for_it (walk_range (lo := 0)) (fun i σ G => ∃ (y2 y3 y4 y5 y6 : Option V), σ = [some (.ref t), some (.ref np), y2, y3, y4, y5, y6, none, none, none] ∧ Ex t H1 G ∧ TapeAt G t (12 + 40 * i))
      ⟨none, none, none, none, none, rfl, Ex.refl t H1, T1⟩ (fun _ _ _ _ _ => trivial) ?_ ?_
    · rintro i v σ G0 G hi ⟨y2, y3, y4, y5, y6, rfl, xG, TG⟩ ⟨rfl, rfl⟩
      have hi20 : i < 20 := hi
      have eG := xG _ _ nnpt e1
      refine ⟨.ref t, rfl, .ref np, rfl, by show 4 ≤ sizeLine; decide, fun l4 n4 => ?_⟩
      have s4 := same_upd (o := .lst (lits4.map V.str)) n4
      refine ⟨np, l4, ws.map V.str, lits4.map V.str, rfl, rfl, s4 _ _ eG, upd_same, by rw [List.length_map]; exact szT _ (by show ws.length + 4 ≤ _; omega), fun ml nml => ?_⟩
      have s5 := same_upd (o := .lst (ws.map V.str ++ lits4.map V.str)) nml
      have s45 := Same.trans s4 s5
      refine ⟨t, ml, ws ++ lits4, 12 + 40 * i, rfl, by rw [List.map_append]; exact upd_same, (TG.same s4).ne_none nml, fun m hm => ?_, by rw [List.length_append]; show 1 ≤ ws.length + 4; omega, by rw [List.length_append]; show ws.length + 4 ≤ 100; omega, TG.same s45, by omega, fun x0 H3 x3 T3 hx0 => ?_⟩
      · rcases List.mem_append.mp hm with z | z
        · exact ⟨(w1 m z).1, (w1 m z).2.ok⟩
        · exact lits4_ok m z
      have x03 : Ex t G H3 := (Same.ex s45).trans x3
      refine ⟨.ref t, rfl, t, 4, 12 + 40 * i + 20, rfl, by decide, by decide, T3, by omega, fun r H4 x4 T4 hr0 hr1 => ⟨r, rfl, by omega, by omega, ?_⟩⟩
      refine for_it (walk_range (lo := 0)) (fun j σ G2 => ∃ (y4 : Option V) (x : Str), σ = [some (.ref t), some (.ref np), some (.int (0 + (i : Nat))), some (.str x), y4, y5, y6, none, none, none] ∧ Ex t G G2 ∧ TapeAt G2 t (12 + 40 * i + 21 + 3 * j) ∧ x.length ≤ 40)
        ⟨_, x0, rfl, x03.trans x4, T4, hx0⟩ (fun _ _ _ _ _ => trivial) ?_ ?_
      · rintro j v2 σ2 G0' G2 hj ⟨y4', x, rfl, xG2, TG2, hx⟩ ⟨rfl, rfl⟩
        exact ⟨.ref t, rfl, .str x, rfl, t, x, _, rfl, hx, TG2, by omega, fun y H5 x5 T5 hy => ⟨_, y, rfl, xG2.trans x5, T5.mono (by omega), hy⟩⟩
      rintro σ2 G2 ⟨y4', x, rfl, xG2, TG2, hx⟩
      -- due
      refine ⟨.str x, rfl, x, rfl, by omega, fun p H5 qs s5' np5 hp5 hm5 hl5 => ?_⟩
      obtain ⟨us, hu, hru⟩ := hp5.lst_inv
      have hul := hru.length
      rw [List.length_map] at hul
      refine ⟨p, rfl, ⟨us, SqL.of hu⟩, fun D nD => ?_⟩
      refine gen_lc (walk_list (xs := us)) (fun i => (qs.getD i (false, Str.empty)).1) (fun i => .str (qs.getD i (false, Str.empty)).2) (fun _ => rfl) nD (by omega) (fun H7 s7 => SqL.of (s7 _ _ hu)) (fun j y H7 H8 Qy Qn hj s7 yy hy hn => ?_) (fun H6 ts s6 d6 r6 => ?_)
      · obtain ⟨rfl, fy⟩ := yy
        obtain ⟨d, hd, hyo⟩ := hru.get fy
        have hjq : j < qs.length := by omega
        rw [List.getElem?_map, List.getElem?_eq_getElem hjq] at hd
        cases hd
        simp only [getD_lt (false, Str.empty) hjq] at hy hn
        obtain ⟨a, u1, u2, rfl, ha, h1, h2⟩ := (hyo.same s7).pair_inv
        have h1 := h1.bool_inv
        have h2 := h2.str_inv
        subst h1 h2
        refine ⟨a, _, rfl, SqT.of ha, rfl, _, _, rfl, _, _, rfl, rfl, rfl, _, rfl, _, rfl, ?_⟩
        dsimp only
        cases hb : qs[j].1 with
        | true => exact ⟨_, rfl, hy hb _ _ (Same.refl _) (.str _)⟩
        | false => exact hn hb _ (Same.refl _)
      rw [hul, range_pick (fun q : Pc => PyData.str q.2) (fun q => q.1) (false, Str.empty)] at r6
      have e : (qs.filter fun q => q.1).map (fun q => PyData.str q.2) = (qs.filterMap ofPc).map PyData.str := by
        rw [pc_filter, List.map_map]
        rfl
      rw [e] at r6
      have e2 := r6.strs_eq
      rw [e2] at d6
      have hfl : (qs.filterMap ofPc).length ≤ qs.length := List.length_filterMap_le _ _
      generalize hds : qs.filterMap ofPc = ds at *
      have s26 := Same.trans s5' s6
      -- told
      refine ⟨.str x, rfl, x, rfl, by omega, fun p1 H7 m1 s7 n7 e7 h7 l7 => ⟨.str x, rfl, x, rfl, by omega, fun p2 H8 m2 s8 n8 e8 h8 l8 => ⟨by show 2 ≤ sizeLine; decide, fun tl ntl => ?_⟩⟩⟩
      have em1 : m1 = ds := cp_inj (h7.trans hm5.symm)
      have em2 : m2 = ds := cp_inj (h8.trans hm5.symm)
      subst em1
      subst em2
      have s9 := same_upd (o := .lst [.ref p1, .ref p2]) ntl
      have s79 := Same.trans (Same.trans s7 s8) s9
      have s89 := Same.trans s8 s9
      refine ⟨.ref tl, rfl, .ref D, rfl, .ref D, rfl, by show 2 ≤ sizeLine; decide, fun dl ndl => ?_⟩
      have s10 := same_upd (o := .lst [.ref D, .ref D]) ndl
      have s7a := Same.trans s79 s10
      have s8a := Same.trans s89 s10
      have s9a := Same.trans s9 s10
      have rD : ∀ {G' : Hp} {a : Addr}, G' a = some (.lst (m2.map V.str)) → Rp G' (.ref a) (.list (m2.map .str)) := fun h => .lst h (RpAll.strs m2)
      have hfit : Fit 4 (.list [.list (m2.map .str), .list (m2.map .str)]) := ⟨by show 2 ≤ 1000; decide, fun d hd => by
        simp only [List.mem_cons, List.not_mem_nil, or_false, or_self] at hd
        rw [hd]
        exact fit_strs 2 _ (by omega)⟩
      refine ⟨.ref tl, .ref dl, .list [.list (m2.map .str), .list (m2.map .str)], rfl, .lst (s10 _ _ upd_same) (.cons (rD (s8a _ _ e7)) (.cons (rD (s9a _ _ e8)) .nil)), .lst upd_same (.cons (rD (s7a _ _ d6)) (.cons (rD (s7a _ _ d6)) .nil)), hfit, fun H9 s11 => ⟨_, rfl, ?_⟩⟩
      have sA := Same.trans s10 s11
      have etl := sA _ _ upd_same
      have ep1 := Same.trans s8a s11 _ _ e7
      refine ⟨.ref tl, rfl, tl, _, 0, .ref p1, rfl, rfl, SqL.of etl, rfl, .inl ⟨rfl, _, SqL.of ep1⟩, p1, _, .str "more", rfl, rfl, ep1, ?_, ?_⟩
      · rw [List.length_map]
        exact small1000 (by omega)
      have s2C : Same G2 H9 := Same.trans s26 (Same.trans s7a s11)
      have np1 : G2 p1 = none := s26.free n7
      have nDp : D ≠ p1 := fun z => by
        subst z
        rw [d6] at n7
        cases n7
      have dB : upd H9 p1 (.lst (m2.map V.str ++ [.str "more"])) D = some (.lst (m2.map V.str)) := by
        rw [upd_ne nDp]
        exact Same.trans s7a s11 _ _ d6
      have xB : Ex t G2 (upd H9 p1 (.lst (m2.map V.str ++ [.str "more"]))) := (Same.ex s2C).upd_free np1
      have TB : TapeAt (upd H9 p1 (.lst (m2.map V.str ++ [.str "more"]))) t (12 + 40 * (i + 1)) := ((TG2.same s2C).upd (TG2.ne_none np1)).mono (by omega)
      generalize upd H9 p1 (.lst (m2.map V.str ++ [.str "more"])) = HB at *
      refine ⟨.str x, rfl, x, rfl, by omega, fun p3 HC m3 sC nC eC hC lC => ?_⟩
      have em3 : m3 = m2 := cp_inj (hC.trans hm5.symm)
      subst em3
      refine ⟨.ref D, rfl, .ref p3, .ref D, .list (m3.map .str), rfl, rD eC, rD (sC _ _ dB), fit_strs 3 _ (by omega), fun HD sD => ⟨_, rfl, ?_⟩⟩
      exact ⟨_, _, _, _, _, rfl, (xG.trans xG2).trans (xB.trans (Same.ex (Same.trans sC sD))), TB.same (Same.trans sC sD)⟩
    · rintro σ G ⟨y2, y3, y4, y5, y6, rfl, xG, TG⟩
      refine ⟨by show 4 ≤ sizeLine; decide, fun a1 n1 => ⟨by show 1 ≤ sizeLine; decide, fun a2 n2 => ⟨by show 2 ≤ sizeLine; decide, fun a3 n3 => ?_⟩⟩⟩
      have s1 := same_upd (o := .lst ([Str.ofString "b", Str.ofString "c", Str.ofString "g", Str.ofString "hijklmno"].map V.str)) n1
      have s2 := same_upd (o := .lst ([Str.ofString "hijklmno"].map V.str)) n2
      have s3 := same_upd (o := .lst [.ref a1, .ref a2]) n3
      have s23 := Same.trans s2 s3
      have s13 := Same.trans s1 s23
      refine ⟨.str kn, rfl, 40, rfl, kn, rfl, by decide +kernel, _, rfl, ?_, fun p1 H2 m1 t1 u1 e1' h1 l1' => ⟨_, rfl, by decide +kernel, fun p2 H3 m2 t2 u2 e2 h2 l2 => ⟨by show 2 ≤ sizeLine; decide, fun tl ntl => ?_⟩⟩⟩
      · have := cut40 kn
        omega
      have em1 := cp_inj (h1.trans kn1)
      have em2 := cp_inj (h2.trans kn2)
      subst em1
      subst em2
      have t3 := same_upd (o := .lst [.ref p1, .ref p2]) ntl
      have t13 := Same.trans (Same.trans t1 t2) t3
      refine ⟨.ref a3, rfl, .ref tl, .ref a3, .list [.list ([Str.ofString "b", Str.ofString "c", Str.ofString "g", Str.ofString "hijklmno"].map .str), .list ([Str.ofString "hijklmno"].map .str)], rfl, .lst upd_same (.cons (.lst (Same.trans t2 t3 _ _ e1') (RpAll.strs _)) (.cons (.lst (t3 _ _ e2) (RpAll.strs _)) .nil)), .lst (t13 _ _ upd_same) (.cons (.lst (t13 _ _ (s23 _ _ upd_same)) (RpAll.strs [Str.ofString "b", Str.ofString "c", Str.ofString "g", Str.ofString "hijklmno"])) (.cons (.lst (t13 _ _ (s3 _ _ upd_same)) (RpAll.strs [Str.ofString "hijklmno"])) .nil)), ?_, fun H4 t4 => q _ ((x1.trans xG).trans (Same.ex (Same.trans s13 (Same.trans t13 t4))))⟩
      refine ⟨by show 2 ≤ 1000; decide, fun d hd => ?_⟩
      simp only [List.mem_cons, List.not_mem_nil, or_false] at hd
      rcases hd with rfl | rfl
      · exact fit_strs 2 _ (by decide)
      · exact fit_strs 2 _ (by decide)

end
end Sg

namespace Sg
open PySem PySem.Spec PyProof.Rows L2
abbrev sLaw : Stmt := topS 16
abbrev nLaw : List Str := ["_law_script", "_law_cells", "_law_k", "_law_tape_here"]
theorem scLaw : FnScope nLaw ["_law_script"] (defScope sLaw) := ⟨rfl, rfl, rfl, by decide +kernel, rfl, by decide +kernel, by decide +kernel⟩
section
variable {P : Program} {w : World} {K : PySem.W.Frag} {mg : Str → Option Value} {base : Heap}
def spLaw (K : PySem.W.Frag) : Sp := fun vs H Q _ => ∃ (a : Addr) (ns : List Int), vs = [.ref a] ∧ SqL K H a (ns.map V.int) ∧ ns.length ≤ 63 ∧ ∀ H', Q (.bl true) H'
theorem ok_law {f fO fT fR : Addr} {fd fdO fdT fdR : FuncData} (F : Fun K "law" "law" sLaw f fd)
    (FO : Fun K "_law_folded" "_law_folded" sFolded fO fdO) (bO : Binds K fdO ["_law_script", "_law_many"] []) (gO : mg "_law_folded" = some (.ref fO)) (GO : FnOk P w K mg base CX0 6 fO fdO ["_law_script", "_law_many"] (spFolded K))
    (FT : Fun K "_law_tape" "_law_tape" sTape fT fdT) (bT : Binds K fdT ["_law_script", "_law_k"] []) (gT : mg "_law_tape" = some (.ref fT)) (GT : FnOk P w K mg base CX0 6 fT fdT ["_law_script", "_law_k"] (spTape K))
    (FR : Fun K "_law_right" "_law_right" sRight fR fdR) (bR : Binds K fdR ["_law_tape_here"] []) (gR : mg "_law_right" = some (.ref fR)) (GR : FnOk P w K mg base CX0 6 fR fdR ["_law_tape_here"] spRight)
    (ml : mg "len" = none) (mr : mg "range" = none) (mm : mg "max" = none) : FnOk P w K mg base CX0 7 f fd ["_law_script"] (spLaw K) := by
  refine F.ok scLaw (fun vs H Q E h => ?_) (fun cdv A outer s H vs Q E hr h => ?_)
  · obtain ⟨a, ns, rfl, _⟩ := h
    rfl
  · obtain ⟨a, ns, rfl, hS, hn, q⟩ := h
    refine ⟨_, pss_cons (ps_set (i := 1) scLaw.nd rfl (.inl rfl) (pe_call GO hr (by rfl) gO FO.kp bO .nil pass0 (pa_cons (pv 0) (pa_cons pe_int pa_nil))))
      (pss_cons (ps_for PassesOwn.never rfl (pi_range1 rfl mr (pa_cons (pe_callB (call_max2 rfl) (by rfl) mm (by decide +kernel) (pa_cons pe_int (pa_cons (pe_callB call_len_seq (by rfl) ml PySem.boot_len (pa_cons (pv 1) pa_nil)) pa_nil))) pa_nil)) (pg_name (i := 2) scLaw.nd rfl (.inl rfl))
        (pss_cons (ps_set (i := 3) scLaw.nd rfl (.inl rfl) (pe_call GT hr (by rfl) gT FT.kp bT .nil pass0 (pa_cons (pv 1) (pa_cons (pv 2) pa_nil))))
        (pss_one (ps_if (pt_not (pt_val (pe_call GR hr (by rfl) gR FR.kp bR .nil pass0 (pa_cons (pv 3) pa_nil)))) (pss_one (ps_ret pe_bl)) pss_nil))))
      (pss_one (ps_ret pe_bl))), ?_⟩
    refine ⟨.ref a, rfl, a, 4, ns, rfl, hS, by decide, by decide, hn, fun c H1 ms s1 nc ec lc => ?_⟩
    have hlm : (ms.map V.int).length ≤ 4 := by
      rw [List.length_map]
      omega
    refine ⟨.ref c, rfl, c, _, rfl, .inl (SqL.of ec), 1, _, rfl, _, rfl, ?_, ?_, ?_⟩
    · split <;> omega
    · split <;> omega
    generalize hk : (if ((ms.map V.int).length : Int) > 1 then ((ms.map V.int).length : Int) else 1) = kk
    have hkk : kk ≤ 4 := by
      rw [← hk]
      split <;> omega
    refine for_it (walk_range (lo := 0)) (fun i σ G => ∃ (y2 y3 : Option V), σ = [some (.ref a), some (.ref c), y2, y3] ∧ Same H1 G) ⟨none, none, rfl, Same.refl H1⟩ (fun _ _ _ _ _ => trivial) ?_ ?_
    · rintro i v σ G0 G hi ⟨y2, y3, rfl, sG⟩ ⟨rfl, rfl⟩
      have e0 : (0 : Int) + (i : Nat) = (i : Nat) := Int.zero_add _
      refine ⟨.ref c, rfl, .int (0 + (i : Nat)), rfl, c, i, ms, by rw [e0]; rfl, SqL.of (sG _ _ ec), by omega, fun t H5 s5 nt T5 => ?_⟩
      refine ⟨.ref t, rfl, t, rfl, T5, fun H6 x6 => ⟨_, rfl, ?_⟩⟩
      exact ⟨_, _, rfl, fun b o e => x6 b o (fun z => by subst z; rw [sG.free nt] at e; cases e) (s5 b o (sG b o e))⟩
    · rintro σ G ⟨y2, y3, rfl, sG⟩
      exact q _
end
theorem all_mk {l : PySem.W.OpenLaw} {w : World} {K : PySem.W.Frag} {h : Heap} {mg : Str → Option Value} {fa f1 f2 f3 f4 f5 f6 f7 f8 f9 f10 f11 f12 f13 : Addr} (X : K.In h) (G : h.Ns mainGlobals mg) (hfa : mg "law" = some (.ref fa))
    {od1 an1 od2 an2 od3 an3 od4 an4 od5 an5 od6 an6 od7 an7 od8 an8 od9 an9 od10 an10 od11 an11 od12 an12 od13 an13 : Option Addr} {sl1 sl2 sl3 sl4 sl5 sl6 sl7 sl8 sl9 sl10 sl11 sl12 sl13 : Array (Option Value)} {oc1 kV1 dc1 pm1 cd1 ct1 oc2 kV2 dc2 pm2 cd2 ct2 oc3 kV3 dc3 pm3 cd3 ct3 oc4 kV4 dc4 pm4 cd4 ct4 oc5 kV5 dc5 pm5 cd5 ct5 oc6 kV6 dc6 pm6 cd6 ct6 oc7 kV7 dc7 pm7 cd7 ct7 oc8 kV8 dc8 pm8 cd8 ct8 oc9 kV9 dc9 pm9 cd9 ct9 oc10 kV10 dc10 pm10 cd10 ct10 oc11 kV11 dc11 pm11 cd11 ct11 oc12 kV12 dc12 pm12 cd12 ct12 oc13 kV13 dc13 pm13 cd13 ct13 : Value} {tkN : Tok}
    (a1 : PySem.W.nsIn K mainGlobals "is_name" = some (some (.ref f1))) (l1 : K.lookup f1 = some ⟨oc1, od1, .func (PySem.W.fnOf "is_name" "is_name" (defArgs sName) (defBody sName) (defScope sName) .none kV1 dc1 pm1 an1 cd1 ct1), sl1⟩) (c1 : PySem.W.codeIn K cd1 "is_name" = true) (k1 : PySem.W.keepIn K (.ref f1) = true)
    (a2 : PySem.W.nsIn K mainGlobals "pieces_of" = some (some (.ref f2))) (l2 : K.lookup f2 = some ⟨oc2, od2, .func (PySem.W.fnOf "pieces_of" "pieces_of" (defArgs sPieces) (defBody sPieces) (defScope sPieces) .none kV2 dc2 pm2 an2 cd2 ct2), sl2⟩) (c2 : PySem.W.codeIn K cd2 "pieces_of" = true) (k2 : PySem.W.keepIn K (.ref f2) = true)
    (a3 : PySem.W.nsIn K mainGlobals "marks_in" = some (some (.ref f3))) (l3 : K.lookup f3 = some ⟨oc3, od3, .func (PySem.W.fnOf "marks_in" "marks_in" (defArgs sMarks) (defBody sMarks) (defScope sMarks) .none kV3 dc3 pm3 an3 cd3 ct3), sl3⟩) (c3 : PySem.W.codeIn K cd3 "marks_in" = true) (k3 : PySem.W.keepIn K (.ref f3) = true)
    (a4 : PySem.W.nsIn K mainGlobals "_law_tape" = some (some (.ref f4))) (l4 : K.lookup f4 = some ⟨oc4, od4, .func (PySem.W.fnOf "_law_tape" "_law_tape" (defArgs sTape) (defBody sTape) (defScope sTape) .none kV4 dc4 pm4 an4 cd4 ct4), sl4⟩) (c4 : PySem.W.codeIn K cd4 "_law_tape" = true) (k4 : PySem.W.keepIn K (.ref f4) = true)
    (a5 : PySem.W.nsIn K mainGlobals "_law_draw" = some (some (.ref f5))) (l5 : K.lookup f5 = some ⟨oc5, od5, .func (PySem.W.fnOf "_law_draw" "_law_draw" (defArgs sDraw) (defBody sDraw) (defScope sDraw) .none kV5 dc5 pm5 an5 cd5 ct5), sl5⟩) (c5 : PySem.W.codeIn K cd5 "_law_draw" = true) (k5 : PySem.W.keepIn K (.ref f5) = true)
    (a6 : PySem.W.nsIn K mainGlobals "_law_folded" = some (some (.ref f6))) (l6 : K.lookup f6 = some ⟨oc6, od6, .func (PySem.W.fnOf "_law_folded" "_law_folded" (defArgs sFolded) (defBody sFolded) (defScope sFolded) .none kV6 dc6 pm6 an6 cd6 ct6), sl6⟩) (c6 : PySem.W.codeIn K cd6 "_law_folded" = true) (k6 : PySem.W.keepIn K (.ref f6) = true)
    (a7 : PySem.W.nsIn K mainGlobals "_law_names" = some (some (.ref f7))) (l7 : K.lookup f7 = some ⟨oc7, od7, .func (PySem.W.fnOf "_law_names" "_law_names" (defArgs sNames) (defBody sNames) (defScope sNames) .none kV7 dc7 pm7 an7 cd7 ct7), sl7⟩) (c7 : PySem.W.codeIn K cd7 "_law_names" = true) (k7 : PySem.W.keepIn K (.ref f7) = true)
    (a8 : PySem.W.nsIn K mainGlobals "_law_same" = some (some (.ref f8))) (l8 : K.lookup f8 = some ⟨oc8, od8, .func (PySem.W.fnOf "_law_same" "_law_same" (defArgs sSame) (defBody sSame) (defScope sSame) .none kV8 dc8 pm8 an8 cd8 ct8), sl8⟩) (c8 : PySem.W.codeIn K cd8 "_law_same" = true) (k8 : PySem.W.keepIn K (.ref f8) = true)
    (a9 : PySem.W.nsIn K mainGlobals "_law_text" = some (some (.ref f9))) (l9 : K.lookup f9 = some ⟨oc9, od9, .func (PySem.W.fnOf "_law_text" "_law_text" (defArgs sText) (defBody sText) (defScope sText) .none kV9 dc9 pm9 an9 cd9 ct9), sl9⟩) (c9 : PySem.W.codeIn K cd9 "_law_text" = true) (k9 : PySem.W.keepIn K (.ref f9) = true)
    (a10 : PySem.W.nsIn K mainGlobals "_law_split" = some (some (.ref f10))) (l10 : K.lookup f10 = some ⟨oc10, od10, .func (PySem.W.fnOf "_law_split" "_law_split" (defArgs sSplit) (defBody sSplit) (defScope sSplit) .none kV10 dc10 pm10 an10 cd10 ct10), sl10⟩) (c10 : PySem.W.codeIn K cd10 "_law_split" = true) (k10 : PySem.W.keepIn K (.ref f10) = true)
    (a11 : PySem.W.nsIn K mainGlobals "_law_bent" = some (some (.ref f11))) (l11 : K.lookup f11 = some ⟨oc11, od11, .func (PySem.W.fnOf "_law_bent" "_law_bent" (defArgs sBent) (defBody sBent) (defScope sBent) .none kV11 dc11 pm11 an11 cd11 ct11), sl11⟩) (c11 : PySem.W.codeIn K cd11 "_law_bent" = true) (k11 : PySem.W.keepIn K (.ref f11) = true)
    (a12 : PySem.W.nsIn K mainGlobals "_law_right" = some (some (.ref f12))) (l12 : K.lookup f12 = some ⟨oc12, od12, .func (PySem.W.fnOf "_law_right" "_law_right" (defArgs sRight) (defBody sRight) (defScope sRight) .none kV12 dc12 pm12 an12 cd12 ct12), sl12⟩) (c12 : PySem.W.codeIn K cd12 "_law_right" = true) (k12 : PySem.W.keepIn K (.ref f12) = true)
    (a13 : PySem.W.nsIn K mainGlobals "law" = some (some (.ref f13))) (l13 : K.lookup f13 = some ⟨oc13, od13, .func (PySem.W.fnOf "law" "law" (defArgs sLaw) (defBody sLaw) (defScope sLaw) .none kV13 dc13 pm13 an13 cd13 ct13), sl13⟩) (c13 : PySem.W.codeIn K cd13 "law" = true) (k13 : PySem.W.keepIn K (.ref f13) = true)
    (z1 : PySem.W.nsIn K mainGlobals "len" = some none)
    (z2 : PySem.W.nsIn K mainGlobals "abs" = some none)
    (z3 : PySem.W.nsIn K mainGlobals "int" = some none)
    (z4 : PySem.W.nsIn K mainGlobals "list" = some none)
    (z5 : PySem.W.nsIn K mainGlobals "enumerate" = some none)
    (z6 : PySem.W.nsIn K mainGlobals "range" = some none)
    (z7 : PySem.W.nsIn K mainGlobals "zip" = some none)
    (z8 : PySem.W.nsIn K mainGlobals "isinstance" = some none)
    (z9 : PySem.W.nsIn K mainGlobals "tuple" = some none)
    (z10 : PySem.W.nsIn K mainGlobals "all" = some none)
    (z11 : PySem.W.nsIn K mainGlobals "str" = some none)
    (z12 : PySem.W.nsIn K mainGlobals "bool" = some none)
    (z13 : PySem.W.nsIn K mainGlobals "max" = some none)
    (zN : PySem.W.nsIn K mainGlobals "NAME_MOST" = some (some (.int 8 tkN))) :
    ∃ fd : FuncData, (∀ (s : Shared) (v : Value), BindsTo s fd ⟨[v], []⟩ [("_law_script", v)]) ∧ ∀ base : Heap, K.In base → base.Ns mainGlobals mg → FnOk l.prog w K mg base CX0 7 fa fd ["_law_script"] (spLaw K) := by
  have e := hfa.symm.trans (PySem.W.mg_of X G a13)
  cases e
  have F1 := fun_mk (st := sName) l1 c1 k1
  have g1 := PySem.W.mg_of X G a1
  have b1 := F1.binds (ps := ["thing"]) fun _ _ _ _ _ _ us hl => match us, hl with | [_], _ => rfl
  have F2 := fun_mk (st := sPieces) l2 c2 k2
  have g2 := PySem.W.mg_of X G a2
  have b2 := F2.binds (ps := ["text"]) fun _ _ _ _ _ _ us hl => match us, hl with | [_], _ => rfl
  have F3 := fun_mk (st := sMarks) l3 c3 k3
  have g3 := PySem.W.mg_of X G a3
  have b3 := F3.binds (ps := ["text"]) fun _ _ _ _ _ _ us hl => match us, hl with | [_], _ => rfl
  have F4 := fun_mk (st := sTape) l4 c4 k4
  have g4 := PySem.W.mg_of X G a4
  have b4 := F4.binds (ps := ["_law_script", "_law_k"]) fun _ _ _ _ _ _ us hl => match us, hl with | [_, _], _ => rfl
  have F5 := fun_mk (st := sDraw) l5 c5 k5
  have g5 := PySem.W.mg_of X G a5
  have b5 := F5.binds (ps := ["_law_tape_here", "_law_many"]) fun _ _ _ _ _ _ us hl => match us, hl with | [_, _], _ => rfl
  have F6 := fun_mk (st := sFolded) l6 c6 k6
  have g6 := PySem.W.mg_of X G a6
  have b6 := F6.binds (ps := ["_law_script", "_law_many"]) fun _ _ _ _ _ _ us hl => match us, hl with | [_, _], _ => rfl
  have F7 := fun_mk (st := sNames) l7 c7 k7
  have g7 := PySem.W.mg_of X G a7
  have b7 := F7.binds (ps := ["_law_tape_here", "_law_many"]) fun _ _ _ _ _ _ us hl => match us, hl with | [_, _], _ => rfl
  have F8 := fun_mk (st := sSame) l8 c8 k8
  have g8 := PySem.W.mg_of X G a8
  have b8 := F8.binds (ps := ["_law_found", "_law_due"]) fun _ _ _ _ _ _ us hl => match us, hl with | [_, _], _ => rfl
  have F9 := fun_mk (st := sText) l9 c9 k9
  have g9 := PySem.W.mg_of X G a9
  have b9 := F9.binds (ps := ["_law_tape_here", "_law_marks"]) fun _ _ _ _ _ _ us hl => match us, hl with | [_, _], _ => rfl
  have F10 := fun_mk (st := sSplit) l10 c10 k10
  have g10 := PySem.W.mg_of X G a10
  have b10 := F10.binds (ps := ["_law_written"]) fun _ _ _ _ _ _ us hl => match us, hl with | [_], _ => rfl
  have F11 := fun_mk (st := sBent) l11 c11 k11
  have g11 := PySem.W.mg_of X G a11
  have b11 := F11.binds (ps := ["_law_tape_here", "_law_written"]) fun _ _ _ _ _ _ us hl => match us, hl with | [_, _], _ => rfl
  have F12 := fun_mk (st := sRight) l12 c12 k12
  have g12 := PySem.W.mg_of X G a12
  have b12 := F12.binds (ps := ["_law_tape_here"]) fun _ _ _ _ _ _ us hl => match us, hl with | [_], _ => rfl
  have F13 := fun_mk (st := sLaw) l13 c13 k13
  have g13 := PySem.W.mg_of X G a13
  have mlen := PySem.W.mg_none_of X G z1
  have mabs := PySem.W.mg_none_of X G z2
  have mint := PySem.W.mg_none_of X G z3
  have mlist := PySem.W.mg_none_of X G z4
  have menumerate := PySem.W.mg_none_of X G z5
  have mrange := PySem.W.mg_none_of X G z6
  have mzip := PySem.W.mg_none_of X G z7
  have misinstance := PySem.W.mg_none_of X G z8
  have mtuple := PySem.W.mg_none_of X G z9
  have mall := PySem.W.mg_none_of X G z10
  have mstr := PySem.W.mg_none_of X G z11
  have mbool := PySem.W.mg_none_of X G z12
  have mmax := PySem.W.mg_none_of X G z13
  have mN := PySem.W.mg_of X G zN
  have kM := kb_one F3 (a := "text") fun _ _ _ _ _ _ _ => rfl
  refine ⟨PySem.W.fnOf "law" "law" (defArgs sLaw) (defBody sLaw) (defScope sLaw) .none kV13 dc13 pm13 an13 cd13 ct13, fun s v => .of_eq rfl, fun base _ _ => ?_⟩
  have GN : FnOk l.prog w K mg base CX0 3 f1 _ ["thing"] spName := ok_name (k := 2) F1 mN misinstance mstr mlen mall
  have GP : FnOk l.prog w K mg base CX0 4 f2 _ ["text"] spPieces := ok_pieces (k := 2) F2 F1 b1 g1 GN
  have GM : FnOk l.prog w K mg base CX0 5 f3 _ ["text"] spMarks := ok_marks (k := 2) F3 F2 b2 g2 GP
  have GR := ok_right (P := l.prog) (w := w) (base := base) F12 F5 b5 g5 (ok_draw (k := 4) F5) F7 b7 g7 (ok_names (k := 3) F7 F5 b5 g5 mlen mrange mint) F9 b9 g9 (ok_text (k := 3) F9 F5 b5 g5 mlen mrange) F11 b11 g11 (ok_bent (k := 3) F11 F5 b5 g5 mlen mmax) F10 b10 g10 (ok_split (k := 4) F10 mlen mrange) F3 b3 kM g3 GM F8 b8 g8 (ok_same F8 b8 g8 misinstance mlist mtuple mlen mall mzip mstr mbool mint 5) mrange
  exact ok_law F13 F6 b6 g6 (ok_folded (k := 5) F6 mlist menumerate) F4 b4 g4 (ok_tape (k := 5) F4 mlen mabs mint) F12 b12 g12 GR mlen mrange mmax
end Sg

open PySem PySem.W PyProof.Rows
set_option maxRecDepth 100000 in
set_option maxHeartbeats 0 in
theorem PySem.Challenge.cw_sheafbooks_k40_marks_in_texts_holds : PySem.Challenge.rw_sheafbooks_k40_marks_in_texts.Holds := by
  w_on; o_law; k_head; (case hw => w_witness2)
  k_fill
  refine L2.walk_of (l := PySem.Challenge.rw_sheafbooks_k40_marks_in_texts) (n := 63) (k := 7) (x := "_law_script") (CX := fun _ => L2.CX0) (sp := fun w => Sg.spLaw _) rfl (by decide) rfl ⟨rfl, by decide, by decide⟩ (fun w h Y => PySem.W.kIn_of Y) ?F (fun _ _ a ns hl _ hS => ⟨a, ns, rfl, hS, hl, fun _ => rfl⟩) (fun _ _ _ _ _ h => h)
  case F =>
    intro w mg fa h KX G hmg
    refine' Sg.all_mk KX G hmg ?a1 ?l1 ?c1 ?k1 ?a2 ?l2 ?c2 ?k2 ?a3 ?l3 ?c3 ?k3 ?a4 ?l4 ?c4 ?k4 ?a5 ?l5 ?c5 ?k5 ?a6 ?l6 ?c6 ?k6 ?a7 ?l7 ?c7 ?k7 ?a8 ?l8 ?c8 ?k8 ?a9 ?l9 ?c9 ?k9 ?a10 ?l10 ?c10 ?k10 ?a11 ?l11 ?c11 ?k11 ?a12 ?l12 ?c12 ?k12 ?a13 ?l13 ?c13 ?k13 ?z1 ?z2 ?z3 ?z4 ?z5 ?z6 ?z7 ?z8 ?z9 ?z10 ?z11 ?z12 ?z13 ?zN
    (case a1 => k_is); (case l1 => k_is); (case c1 => k_is); (case k1 => k_is); (case a2 => k_is); (case l2 => k_is); (case c2 => k_is); (case k2 => k_is); (case a3 => k_is); (case l3 => k_is); (case c3 => k_is); (case k3 => k_is); (case a4 => k_is); (case l4 => k_is); (case c4 => k_is); (case k4 => k_is); (case a5 => k_is); (case l5 => k_is); (case c5 => k_is); (case k5 => k_is); (case a6 => k_is); (case l6 => k_is); (case c6 => k_is); (case k6 => k_is); (case a7 => k_is); (case l7 => k_is); (case c7 => k_is); (case k7 => k_is); (case a8 => k_is); (case l8 => k_is); (case c8 => k_is); (case k8 => k_is); (case a9 => k_is); (case l9 => k_is); (case c9 => k_is); (case k9 => k_is); (case a10 => k_is); (case l10 => k_is); (case c10 => k_is); (case k10 => k_is); (case a11 => k_is); (case l11 => k_is); (case c11 => k_is); (case k11 => k_is); (case a12 => k_is); (case l12 => k_is); (case c12 => k_is); (case k12 => k_is); (case a13 => k_is); (case l13 => k_is); (case c13 => k_is); (case k13 => k_is); (case z1 => k_is); (case z2 => k_is); (case z3 => k_is); (case z4 => k_is); (case z5 => k_is); (case z6 => k_is); (case z7 => k_is); (case z8 => k_is); (case z9 => k_is); (case z10 => k_is); (case z11 => k_is); (case z12 => k_is); (case z13 => k_is); (case zN => k_is)

