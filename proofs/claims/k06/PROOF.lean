import PyProof.Rows.All
import Wide.All
import OpenK.AllK
import Wide.FinOn
import KE.GoesMore
import HandS.ForMost
import HandS.Walk
import HandS.Zip
import HandS.TupAny
import HandS.IsInst
import HandS.Deep
import HandS.Conv
import HandS.Style
import HandS.Flow
import HandS.Wide
import PyProof.ReprRoads
import HandS.Ends
import KE.SortData
import PyProof.EnumMake
import HandS.TupLe
import PyProof.ReprBulk
import HandS.Codes
import PySem.Challenge.RW_sheafbooks_k06_cases_of_whens
set_option Elab.async false
set_option linter.all false
set_option maxRecDepth 100000
set_option maxHeartbeats 4000000
namespace Sg
open PySem PySem.Spec PyProof.Rows L2
/-! ### heaps -/
theorem same_upd {H : Hp} {p : Addr} {o : HO} (h : H p = none) : Same H (upd H p o) := fun b x e => by
  rw [upd_ne (ne_of_none e h)]
  exact e
/-- all but what stands at t is as it was -/
def Ex (t : Addr) (H H' : Hp) : Prop := ∀ a o, a ≠ t → H a = some o → H' a = some o
theorem Ex.refl (t : Addr) (H : Hp) : Ex t H H := fun _ _ _ h => h
theorem Ex.trans {t : Addr} {H H1 H2 : Hp} (a : Ex t H H1) (b : Ex t H1 H2) : Ex t H H2 := fun c o n h => b c o n (a c o n h)
theorem Same.ex {t : Addr} {H H' : Hp} (s : Same H H') : Ex t H H' := fun c o _ h => s c o h
theorem Ex.upd {t : Addr} {H H' : Hp} {o : HO} (s : Ex t H H') : Ex t H (upd H' t o) := fun c u n h => by
  rw [upd_ne n]
  exact s c u n h
theorem Ex.free {t : Addr} {H H' : Hp} (s : Ex t H H') {l : Addr} (hn : l ≠ t) (h : H' l = none) : H l = none := by
  cases q : H l with
  | none => rfl
  | some o =>
    rw [s l o hn q] at h
    cases h
/-- tuples stay -/
def KeepT (H H' : Hp) : Prop := ∀ a xs, H a = some (.tup xs) → H' a = some (.tup xs)
theorem Same.keepT {H H' : Hp} (s : Same H H') : KeepT H H' := fun a xs h => s a _ h
theorem KeepT.refl (H : Hp) : KeepT H H := fun _ _ h => h
theorem KeepT.trans {H H1 H2 : Hp} (a : KeepT H H1) (b : KeepT H1 H2) : KeepT H H2 := fun c o h => b c o (a c o h)
theorem Ex.keepT {t : Addr} {H H' : Hp} {ys : List V} (s : Ex t H H') (ht : H t = some (.lst ys)) : KeepT H H' := fun a xs h => by
  by_cases e : a = t
  · subst e
    rw [ht] at h
    cases h
  · exact s a _ e h
theorem keepT_lst {H : Hp} {l : Addr} {xs ys : List V} (h : H l = some (.lst xs)) : KeepT H (upd H l (.lst ys)) := fun a zs e => by
  rw [upd_ne (fun q => by subst q; rw [h] at e; cases e)]
  exact e
/-! ### data: tuples and lists of data -/
mutual
inductive Rp (H : Hp) : V → PyData → Prop
  | non : Rp H .non .none
  | bl (b : Bool) : Rp H (.bl b) (.bool b)
  | int (i : Int) : Rp H (.int i) (.int i)
  | str (x : Str) : Rp H (.str x) (.str x)
  | lst {a : Addr} {xs : List V} {ds : List PyData} : H a = some (.lst xs) → RpAll H xs ds → Rp H (.ref a) (.list ds)
  | tup {a : Addr} {xs : List V} {ds : List PyData} : H a = some (.tup xs) → RpAll H xs ds → Rp H (.ref a) (.tuple ds)
inductive RpAll (H : Hp) : List V → List PyData → Prop
  | nil : RpAll H [] []
  | cons {v : V} {vs : List V} {d : PyData} {ds : List PyData} : Rp H v d → RpAll H vs ds → RpAll H (v :: vs) (d :: ds)
end
mutual
theorem Rp.same {H H' : Hp} (s : Same H H') : ∀ {v : V} {d : PyData}, Rp H v d → Rp H' v d
  | _, _, .non => .non
  | _, _, .bl b => .bl b
  | _, _, .int i => .int i
  | _, _, .str x => .str x
  | _, _, .lst h hs => .lst (s _ _ h) (RpAll.same s hs)
  | _, _, .tup h hs => .tup (s _ _ h) (RpAll.same s hs)
theorem RpAll.same {H H' : Hp} (s : Same H H') : ∀ {vs : List V} {ds : List PyData}, RpAll H vs ds → RpAll H' vs ds
  | _, _, .nil => .nil
  | _, _, .cons h hs => .cons (Rp.same s h) (RpAll.same s hs)
end
mutual
theorem Rp.dp {K : PySem.W.Frag} {H : Hp} : ∀ {v : V} {d : PyData}, Rp H v d → Dp K H v d
  | _, _, .non => .non
  | _, _, .bl b => .bl b
  | _, _, .int i => .int i
  | _, _, .str x => .str x
  | _, _, .lst h hs => .lst (.inl (.inl h)) (RpAll.dp hs)
  | _, _, .tup h hs => .tup (.inl (.inl h)) (RpAll.dp hs)
theorem RpAll.dp {K : PySem.W.Frag} {H : Hp} : ∀ {vs : List V} {ds : List PyData}, RpAll H vs ds → DpAll K H vs ds
  | _, _, .nil => .nil
  | _, _, .cons h hs => .cons (Rp.dp h) (RpAll.dp hs)
end
/-! no list in it: it stays whatever lists become -/
mutual
def imm : PyData → Bool
  | .list _ => false
  | .tuple ds => immAll ds
  | _ => true
def immAll : List PyData → Bool
  | [] => true
  | d :: ds => imm d && immAll ds
end
mutual
theorem Rp.keep {H H' : Hp} (s : KeepT H H') : ∀ {v : V} {d : PyData}, Rp H v d → imm d = true → Rp H' v d
  | _, _, .non, _ => .non
  | _, _, .bl b, _ => .bl b
  | _, _, .int i, _ => .int i
  | _, _, .str x, _ => .str x
  | _, _, .lst h hs, e => by simp [imm] at e
  | _, _, .tup h hs, e => .tup (s _ _ h) (RpAll.keep s hs (by simpa [imm] using e))
theorem RpAll.keep {H H' : Hp} (s : KeepT H H') : ∀ {vs : List V} {ds : List PyData}, RpAll H vs ds → immAll ds = true → RpAll H' vs ds
  | _, _, .nil, _ => .nil
  | _, _, .cons h hs, e => by
    simp only [immAll, Bool.and_eq_true] at e
    exact .cons (Rp.keep s h e.1) (RpAll.keep s hs e.2)
end
theorem RpAll.length {H : Hp} : ∀ {vs : List V} {ds : List PyData}, RpAll H vs ds → vs.length = ds.length
  | _, _, .nil => rfl
  | _, _, .cons _ hs => by rw [List.length_cons, List.length_cons, RpAll.length hs]
theorem RpAll.get {H : Hp} : ∀ {vs : List V} {ds : List PyData} {i : Nat} {v : V}, RpAll H vs ds → vs[i]? = some v → ∃ d, ds[i]? = some d ∧ Rp H v d
  | _, _, _, _, .nil, e => by simp at e
  | _, _, 0, _, .cons h _, e => by simp at e; subst e; exact ⟨_, rfl, h⟩
  | _, _, i + 1, _, .cons _ hs, e => by
    rw [List.getElem?_cons_succ] at e
    rw [List.getElem?_cons_succ]
    exact RpAll.get hs e
theorem RpAll.getD {H : Hp} : ∀ {vs : List V} {ds : List PyData} {i : Nat} {d : PyData}, RpAll H vs ds → ds[i]? = some d → ∃ v, vs[i]? = some v ∧ Rp H v d
  | _, _, _, _, .nil, e => by simp at e
  | _, _, 0, _, .cons h _, e => by simp at e; subst e; exact ⟨_, rfl, h⟩
  | _, _, i + 1, _, .cons _ hs, e => by
    rw [List.getElem?_cons_succ] at e
    rw [List.getElem?_cons_succ]
    exact RpAll.getD hs e
theorem RpAll.append {H : Hp} : ∀ {vs ws : List V} {ds es : List PyData}, RpAll H vs ds → RpAll H ws es → RpAll H (vs ++ ws) (ds ++ es)
  | _, _, _, _, .nil, h => h
  | _, _, _, _, .cons h hs, h2 => .cons h (RpAll.append hs h2)
theorem RpAll.take {H : Hp} : ∀ {vs : List V} {ds : List PyData} (n : Nat), RpAll H vs ds → RpAll H (vs.take n) (ds.take n)
  | _, _, 0, _ => by rw [List.take_zero, List.take_zero]; exact .nil
  | _, _, n + 1, .nil => .nil
  | _, _, n + 1, .cons h hs => .cons h (RpAll.take n hs)
theorem RpAll.drop {H : Hp} : ∀ {vs : List V} {ds : List PyData} (n : Nat), RpAll H vs ds → RpAll H (vs.drop n) (ds.drop n)
  | _, _, 0, h => h
  | _, _, n + 1, .nil => .nil
  | _, _, n + 1, .cons h hs => RpAll.drop n hs
theorem RpAll.strs {H : Hp} : ∀ (ws : List Str), RpAll H (ws.map V.str) (ws.map PyData.str)
  | [] => .nil
  | w :: ws => .cons (.str w) (RpAll.strs ws)
theorem RpAll.strs_eq {H : Hp} : ∀ {vs : List V} {ws : List Str}, RpAll H vs (ws.map PyData.str) → vs = ws.map V.str
  | _, [], .nil => rfl
  | _, w :: ws, .cons h hs => by
    cases h
    rw [List.map_cons, RpAll.strs_eq hs]
theorem immAll_strs : ∀ ws : List Str, immAll (ws.map PyData.str) = true
  | [] => rfl
  | w :: ws => by
    rw [List.map_cons]
    show (imm (PyData.str w) && immAll (ws.map PyData.str)) = true
    rw [immAll_strs ws]
    rfl
theorem immAll_map {α : Type} {f : α → PyData} (hf : ∀ x, imm (f x) = true) : ∀ xs : List α, immAll (xs.map f) = true
  | [] => rfl
  | x :: xs => by
    rw [List.map_cons]
    show (imm (f x) && immAll (xs.map f)) = true
    rw [hf x, immAll_map hf xs]
    rfl
/-! the text's words -/
def dW (ws : List Str) : PyData := .tuple (ws.map .str)
def dC (c : List (List Str)) : PyData := .tuple (c.map dW)
def dF (fs : List (Str × List Str)) : PyData := .tuple (fs.map fun p => .tuple [.str p.1, dW p.2])
theorem imm_dW (ws : List Str) : imm (dW ws) = true := immAll_strs ws
theorem imm_dC (c : List (List Str)) : imm (dC c) = true := immAll_map imm_dW c
theorem imm_dP (p : Str × List Str) : imm (.tuple [.str p.1, dW p.2]) = true := by
  show (imm (.str p.1) && (imm (dW p.2) && immAll [])) = true
  rw [imm_dW]
  rfl
theorem imm_dF (fs : List (Str × List Str)) : imm (dF fs) = true := immAll_map imm_dP fs
theorem Rp.dW_inv {H : Hp} {v : V} {ws : List Str} (h : Rp H v (dW ws)) : ∃ a, v = .ref a ∧ H a = some (.tup (ws.map V.str)) := by
  unfold dW at h
  cases h with
  | tup ha hs => exact ⟨_, rfl, by rw [ha, RpAll.strs_eq hs]⟩
theorem Rp.dW_mk {H : Hp} {a : Addr} {ws : List Str} (h : H a = some (.tup (ws.map V.str))) : Rp H (.ref a) (dW ws) := .tup h (RpAll.strs ws)
/-! ### rules of our own -/
section
variable {X : Cx} {CX : CXT} {k : Nat} {f : Addr} {fd : FuncData} {ps ks : List Str} {sp : Sp} {E : XK} {x : Str} {p pos : Pos} {kws : List Keyword} {tk : TA} {g : List Value → List Value → List Value} {gV : List V → List V → List V}
/-- f(k = e, ..) without places -/
theorem pe_callK0 (F : FnOk X.prog X.w X.K X.mg X.base CX k f fd ps sp) (hr : Room k X.A) (hg : Gl X x) (hm : X.mg x = some (.ref f)) (hk : PySem.W.keepIn X.K (.ref f) = true) (hb : KBinds X.K fd ps ks g gV) (hx : Passes CX X E) (hkw : PK X kws tk)
    (hall : (backToKw pos (keywordEach kws X.env)).all (·.1.isSome) = true := by rfl) (hks : (backToKw pos (keywordEach kws X.env)).filterMap (·.1) = ks := by rfl) (hdb : (x == ("__debug__" : Str)) = false := by decide)
    (hpl : ((backTo pos (starEach [] X.env)).any (·.1) || (backToKw pos (keywordEach kws X.env)).any (·.1.isNone)) = false := by rfl) :
    PE X (.Call (.Name x p) [] kws pos) (tCallK sp gV E tNil tk) := by
  refine ⟨fun pins s σ H Q I h => ?_⟩
  refine wpAny_Call_Name_kw (ld_glob I hg hm ?_ hdb)
  refine PySem.W.callWith_KW0 (h₀ := X.base) I.ok.mod.kin hk hall ?_ hpl
  refine thn (hkw.run pos pins s σ H _ I h) fun ws s2 ⟨zs, H2, I2, rz, q2⟩ => ⟨I2.kIn, ?_⟩
  rw [hks]
  exact run_fnk (us := []) (vs := []) F hr hb hx I2 .nil rz q2
end
section
variable {X : Cx}
/-- x in t: t a tuple of data -/
def rInTD (K : PySem.W.Frag) : R2 := fun x y H Q => ∃ d ds, Dp K H x d ∧ Dp K H y (.tuple ds) ∧ SeqAt.shaped d = true ∧ SeqAt.shaped (.tuple ds) = true ∧ Q (.bl (ds.any fun z => PyData.eqv z d)) H
theorem op_inTD (hu : X.A.units + 65 < cLine) : OpR X (compareOp .In) (rInTD X.K) := by
  intro pins s σ H x y v u Q I rx ry h
  obtain ⟨d, ds, hd, he, sd, se, q⟩ := h
  obtain ⟨as, r1⟩ := Dp.reads I d x v hd rx
  obtain ⟨bs, r2⟩ := Dp.reads I (.tuple ds) y u he ry
  exact SeqAt.in_tuple_reads r2 r1 (SeqAt.canLay_of_shaped se) (SeqAt.canLay_of_shaped sd) (room_in_shaped sd hu) ⟨.bl _, H, I, rfl, q⟩
/-- a text, none or one time -/
def rRepS : R2 := fun x y H Q => ∃ (z : Str) (n : Int), x = .str z ∧ y = .int n ∧ (n = 0 ∨ n = 1) ∧ Q (.str (if n = 0 then Str.empty else z)) H
theorem op_repS : OpR X (binaryOp .Mult) rRepS := by
  intro pins s σ H x y v u Q I rx ry h
  obtain ⟨z, n, rfl, rfl, hn, q⟩ := h
  obtain ⟨t, rfl⟩ := rx
  obtain ⟨t2, rfl⟩ := ry
  rcases hn with rfl | rfl
  · rw [if_pos rfl] at q
    exact PySem.P.mul_str_none (by decide) (by decide) ⟨.str Str.empty, H, I.kept (fun _ _ h => h), ⟨_, rfl⟩, q⟩
  · rw [if_neg (by decide)] at q
    refine PySem.P.mul_str (by decide) (fun _ h => by simp at h) (fun _ h => by simp at h) ?_
    rw [if_neg (by decide), if_pos (by simp)]
    exact ⟨.str z, H, I, ⟨_, rfl⟩, q⟩
theorem rep_len (z : Str) (n : Int) : (if n = 0 then Str.empty else z).length ≤ z.length := by
  split
  · exact Nat.zero_le _
  · exact Nat.le_refl _
end
/-! ### texts of small letters -/
def Low (x : Str) : Prop := ∀ c ∈ x.cps.toList, 97 ≤ c ∧ c ≤ 122
def Wd (x : Str) : Prop := x.length ≤ 16 ∧ Low x
theorem Low.append {x y : Str} (hx : Low x) (hy : Low y) : Low (x ++ y) := fun c hc => by
  have e : (x ++ y).cps.toList = x.cps.toList ++ y.cps.toList := TL.tl_append x y
  rw [e] at hc
  rcases List.mem_append.mp hc with h | h
  · exact hx c h
  · exact hy c h
theorem Low.empty : Low Str.empty := fun c hc => by
  have e : Str.empty.cps.toList = [] := rfl
  rw [e] at hc
  cases hc
theorem Low.cut {z : Str} (h : Low z) (lo hi : Option Int) : Low (cutS z lo hi) := fun c hc => by
  have e : (cutS z lo hi).cps.toList = (z.cps.toList.drop (HT.sIx z.length 0 lo)).take (HT.sIx z.length z.length hi - HT.sIx z.length 0 lo) := rfl
  rw [e] at hc
  exact h c (List.mem_of_mem_drop (List.mem_of_mem_take hc))
theorem Low.rep {z : Str} (h : Low z) (n : Int) : Low (if n = 0 then Str.empty else z) := by
  split
  · exact Low.empty
  · exact h
theorem Low.join : ∀ cs : List Str, (∀ x ∈ cs, Low x) → Low (Str.join (Str.ofString "") cs)
  | [], _ => Low.empty
  | [x], h => h x (List.mem_singleton.mpr rfl)
  | x :: y :: r, h => by
    show Low (x ++ Str.ofString "" ++ Str.join (Str.ofString "") (y :: r))
    refine ((h x (List.mem_cons_self ..)).append ?_).append (Low.join (y :: r) fun z hz => h z (List.mem_cons_of_mem _ hz))
    intro c hc
    rw [show (Str.ofString "").cps.toList = [] by decide +kernel] at hc
    cases hc
theorem Low.ok {x : Str} (h : Low x) : PyData.strOk x = true := by
  unfold PyData.strOk
  rw [← Array.all_toList, List.all_eq_true]
  intro c hc
  exact decide_eq_true (by have := h c hc; omega)
/-! ### shapes: what may be compared -/
theorem canLayAll_map {α : Type} {f : α → PyData} {xs : List α} (hf : ∀ x ∈ xs, (f x).canLay0 = true) : PyData.canLayAll0 (xs.map f) = true := by
  induction xs with
  | nil => rfl
  | cons x r ih =>
    rw [List.map_cons]
    show ((f x).canLay0 && PyData.canLayAll0 (r.map f)) = true
    rw [hf x (List.mem_cons_self ..), ih fun y hy => hf y (List.mem_cons_of_mem _ hy)]
    rfl
theorem depthAll_map {α : Type} {f : α → PyData} {k : Nat} {xs : List α} (hf : ∀ x ∈ xs, (f x).depth ≤ k) : PyData.depthAll (xs.map f) ≤ k := by
  induction xs with
  | nil => exact Nat.zero_le _
  | cons x r ih =>
    rw [List.map_cons]
    show max (f x).depth (PyData.depthAll (r.map f)) ≤ k
    exact Nat.max_le.mpr ⟨hf x (List.mem_cons_self ..), ih fun y hy => hf y (List.mem_cons_of_mem _ hy)⟩
theorem shaped_of {d : PyData} (h : d.canLay0 = true) (hd : d.depth ≤ 64) : SeqAt.shaped d = true := by
  unfold SeqAt.shaped
  rw [h, decide_eq_true hd]
  rfl
theorem lay_dW {ws : List Str} (h : ∀ x ∈ ws, Wd x) : (dW ws).canLay0 = true := canLayAll_map fun x hx => (h x hx).2.ok
theorem dep_dW (ws : List Str) : (dW ws).depth ≤ 1 := Nat.succ_le_succ (depthAll_map (k := 0) fun _ _ => Nat.le_refl _)
theorem lay_dC {c : List (List Str)} (h : ∀ ws ∈ c, ∀ x ∈ ws, Wd x) : (dC c).canLay0 = true := canLayAll_map fun ws hw => lay_dW (h ws hw)
theorem dep_dC (c : List (List Str)) : (dC c).depth ≤ 2 := Nat.succ_le_succ (depthAll_map (k := 1) fun ws _ => dep_dW ws)
abbrev dP (p : Str × List Str) : PyData := .tuple [.str p.1, dW p.2]
theorem lay_dP {p : Str × List Str} (h1 : Wd p.1) (h : ∀ x ∈ p.2, Wd x) : (dP p).canLay0 = true := by
  show (PyData.strOk p.1 && ((dW p.2).canLay0 && true)) = true
  rw [h1.2.ok, lay_dW h]
  rfl
theorem dep_dP (p : Str × List Str) : (dP p).depth ≤ 2 := by
  show max 0 (max (dW p.2).depth 0) + 1 ≤ 2
  have := dep_dW p.2
  omega
theorem eqv_nil_l (ds : List PyData) : PyData.eqv (.list ds) (.list []) = ds.isEmpty := by
  cases ds <;> rfl
theorem eqv_nil_t (ds : List PyData) : PyData.eqv (.tuple ds) (.tuple []) = ds.isEmpty := by
  cases ds <;> rfl
end Sg

namespace Sg
open PySem PySem.Spec PyProof.Rows L2
/-! ### defs that are called where no repr is at work -/
structure FnG (P : Program) (w : World) (K : PySem.W.Frag) (mg : Str → Option Value) (base : Heap) (k : Nat) (f : Addr) (fd : FuncData) (ps : List Str) (sp : Sp) : Prop where
  size : ∀ vs H Q E, sp vs H Q E → vs.length = ps.length
  goes : ∀ (B : Around) (fr : List Env) (z : Shared) (H : Hp) (as : Args) (us : List Value) (vs : List V) (Q : VK) (E : XK), B.guards = some [] → Room k B → Env0 P w K mg base B fr z H → BindsTo z fd as (ps.zip us) → Vals vs us → sp vs H Q E →
    codeAny (model P w) B (.call (.ref f) as) (CR CX0 fr P w H z Q E) z
theorem ofOk {P : Program} {w : World} {K : PySem.W.Frag} {mg : Str → Option Value} {base : Heap} {k : Nat} {f : Addr} {fd : FuncData} {ps : List Str} {sp : Sp} (F : FnOk P w K mg base CX0 k f fd ps sp) : FnG P w K mg base k f fd ps sp :=
  ⟨F.len, fun B fr z H as us vs Q E _ => F.run B fr z H as us vs Q E⟩
theorem FnG.less {P : Program} {w : World} {K : PySem.W.Frag} {mg : Str → Option Value} {base : Heap} {j k : Nat} {f : Addr} {fd : FuncData} {ps : List Str} {sp : Sp} (F : FnG P w K mg base j f fd ps sp) (h : j ≤ k) : FnG P w K mg base k f fd ps sp :=
  ⟨F.size, fun B fr z H as us vs Q E hg hr => F.goes B fr z H as us vs Q E hg (hr.mono h)⟩
section
variable {X : Cx} {k : Nat} {f : Addr} {fd : FuncData} {ps : List Str} {sp : Sp} {x : Str} {p pos : Pos} {e : Expr} {es : List Expr} {t : TA}
/-- f(e, ..), f such a def without defaults -/
theorem pe_callG (F : FnG X.prog X.w X.K X.mg X.base k f fd ps sp) (hgd : X.A.guards = some []) (hr : Room k X.A) (hg : Gl X x) (hm : X.mg x = some (.ref f)) (hk : PySem.W.keepIn X.K (.ref f) = true) (hb : Binds X.K fd ps []) (ha : PA X (e :: es) t)
    (hdb : (x == ("__debug__" : Str)) = false := by decide) (he : starEach (e :: es) X.env = (false, eval e X.env) :: starEach es X.env := by rfl) (hpl : (backTo pos (starEach es X.env)).any (·.1) = false := by rfl) :
    PE X (.Call (.Name x p) (e :: es) [] pos) (tCall sp [] E0 t) := by
  refine ⟨fun pins z σ H Q I hw => wpAny_Call_Name_kw (ld_glob I hg hm ?_ hdb)⟩
  refine PySem.W.callWith_K (h₀ := X.base) I.ok.mod.kin hk ?_ he hpl
  refine thn (ha.run pos pins z σ H _ I hw) fun us z1 h1 => ?_
  obtain ⟨vs, H1, I1, rv, hs⟩ := h1
  have rv2 : Vals (vs ++ []) (us ++ []) := rv.append .nil
  have hl : (us ++ []).length = ps.length := by
    rw [← rv2.length]
    exact F.size _ _ _ _ hs
  refine ⟨I1.kIn, wpAny_call (codeAny_mono (F.goes X.A X.stack z1 H1 ⟨us, []⟩ _ _ Q E0 hgd hr I1.env0 (hb z1 us I1.kIn hl) rv2 hs) fun r z2 hq => ?_)⟩
  match r, hq with
  | .error _, hq => exact (pass0 (X := X) pins σ H1 z1 _ z2 I1 hq)
  | .ok (.ret _), hq => exact I1.after hq
/-- repr of data -/
def rReprD (K : PySem.W.Frag) : List V → Hp → VK → Prop := fun xs H Q => ∃ (a : Addr) (d : PyData), xs = [.ref a] ∧ Dp K H (.ref a) d ∧ d.showable = true ∧ d.hasDict = false ∧ d.depth ≤ 60 ∧ d.shown.length ≤ sizeLine ∧ Q (.str d.shown) H
theorem call_reprD (hgd : X.A.guards = some []) (hu : X.A.units + 65 < cLine) : CallR X (.builtin "repr") (rReprD X.K) := by
  intro pins z σ H xs us Q I r h
  obtain ⟨a, d, rfl, hd, hs, hn, hdep, hl, q⟩ := h
  obtain ⟨u, rfl, ru⟩ := vals1 r
  cases ru
  obtain ⟨as, rd⟩ := Dp.reads I d (.ref a) (.ref a) hd rfl
  exact PySem.repr_of_reads' rd hs (fun e => by rw [hn] at e; cases e) hgd (by omega) (fun _ _ e => e) (fun h' u tk hk => ⟨.str d.shown, H, I.kept (t' := tk) hk, ⟨_, rfl⟩, q⟩) hl
end
section
variable {P : Program} {w : World} {K : PySem.W.Frag} {mg : Str → Option Value} {base : Heap}
/-- such a def by its body -/
theorem okG {x : Str} {st : Stmt} {f : Addr} {fd : FuncData} {N ps : List Str} {k : Nat} {sp : Sp} (F : Fun K x x st f fd) (S : FnScope N ps (defScope st)) (hlen : ∀ vs H Q E, sp vs H Q E → vs.length = ps.length)
    (hbody : ∀ (cdv : Value) (B : Around) (fr : List Env) (z : Shared) (H : Hp) (vs : List V) (Q : VK) (E : XK), (B.deeper (envOfC x (defScope st) z.heap.objs.size f cdv)).guards = some [] → Room k (B.deeper (envOfC x (defScope st) z.heap.objs.size f cdv)) → sp vs H Q E →
      ∃ t, PSs (cxOf CX0 P w K mg base N x (defScope st) f cdv B fr z H E).nox (defBody st) t ∧ t { nx := fun _ H' => Q .non H', rt := Q } (start N vs) H) : FnG P w K mg base (k + 1) f fd ps sp := by
  obtain ⟨oc, od, kV, doc, pm, an, cdv, ct, osl, rfl, lk, hcd⟩ := F.ex
  refine ⟨hlen, fun B fr z H as us vs Q E hgd hr e0 hb rv hsp => ?_⟩
  have old : ∀ b o, base.get? b = some o → z.heap.get? b = some o := fun b o e => (e0.bs b o e).1
  have kin : K.In z.heap := e0.mod.kin.keeps old
  have hkd : ∀ y ∈ ps.zip us, (defScope st).names.lookup y.1 = some .local ∨ ((defScope st).names.lookup y.1 = some .cell ∧ ((cellsFrom (z.heap.objs.size + 1) (defScope st).names []).lookup y.1).isSome = true) := by
    rintro ⟨nm, u⟩ hy
    exact (S.par nm (List.of_mem_zip hy).1).imp id fun e => ⟨e, PySem.W.cellsFrom_some _ _ _ (.inl e)⟩
  have enter := fun (env : Env) (z1 : Shared) => True
  refine codeAny_call_function hr.depth (kin _ _ lk) rfl S.co S.gen rfl (PySem.W.codeRec_of kin hcd) (hb _ _ _ _ (wpAny_newFunctionEnv_cells S.kind hkd fun env he z1 x1 => ?_))
  subst he
  obtain ⟨tt, ht, hq⟩ := hbody cdv B fr z H vs Q E hgd (hr.deeper _) hsp
  have I0 := inv_start (CX := CX0) (E := E) S hr.hd e0 (hlen _ _ _ _ hsp) rv x1
  refine ⟨(e0.mod.nolimit.keeps old).keeps x1.toInCall.keep, codeAny_func (wpAny_mono (ht.nox.run [] z1 (start N vs) H _ I0 hq) (fun fl z2 hz => ?_) fun _ _ hz => hz)⟩
  match fl, hz with
  | .ret u, ⟨v, _, H', J, ru, hQ⟩ => exact ⟨v, H', J.os, J.bare, J.base, J.hok, ru, hQ⟩
  | .next, ⟨_, H', J, hQ⟩ => exact ⟨.non, H', J.os, J.bare, J.base, J.hok, rfl, hQ⟩
  | .brk, ⟨_, _, _, hQ⟩ => exact hQ.elim
  | .cont, ⟨_, _, _, hQ⟩ => exact hQ.elim
end
/-! ### the law's own call -/
section
variable {P : Program} {w : World} {K : PySem.W.Frag} {mg mb : Str → Option Value} {k : Nat} {fa a : Addr} {fd : FuncData} {x : Str} {sp : Sp} {z : Shared} {vs : List Value} {ns : List Int}
/-- what stands around the law's call: nothing but the script may be tracked -/
theorem env_top {G : Hp} (KX : K.In z.heap) (n1 : z.heap.Ns mainGlobals mg) (n2 : z.heap.Ns builtinsNs mb) (n3 : ∀ x : Str, x ≠ "__name__" → mb x = bootBuiltins x) (n4 : z.heap.NoLimit) (n5 : z.gens = #[])
    (ha : z.heap.get? a = some { cls := .type "list", data := .seq vs.toArray }) (ok : HOk P w G z.heap) (only : ∀ b, G b ≠ none → b = a) (hk : G a ≠ none → K.lookup a = none) :
    K.In (hidT z.heap G) ∧ (hidT z.heap G).Ns mainGlobals mg ∧ Env0 P w K mg (hidT z.heap G) callerA [] z G := by
  have free : ∀ {b : Addr}, b ≠ a → G b = none := fun {b} h => Classical.byContradiction fun h2 => h (only b h2)
  have dicts : ∀ {b : Addr} {m : Str → Option Value}, z.heap.Ns b m → (hidT z.heap G).Ns b m := by
    rintro b m ⟨o, es, ep, h1, h2, h3⟩
    refine ⟨o, es, ep, hidT_get h1 (free fun e => ?_), h2, h3⟩
    subst e
    rw [ha] at h1
    cases h1
    cases h2
  have kin : K.In (hidT z.heap G) := by
    intro b o e
    by_cases h : b = a
    · subst h
      refine hidT_get (KX b o e) (Classical.byContradiction fun h2 => ?_)
      rw [hk h2] at e
      cases e
    · exact hidT_get (KX b o e) (free h)
  obtain ⟨mc, c1, c2⟩ := n4
  refine ⟨kin, dicts n1, ?_⟩
  exact { frames := rfl, mod := ⟨kin, dicts n1, ⟨mb, dicts n2, n3⟩, ⟨mc, dicts c1, c2⟩⟩, bs := fun b o e => of_hidT e, bsz := Nat.le_of_eq (hidT_size _ _), funs := trivial, frf := fun b hb => (List.not_mem_nil hb).elim, hok := ok, bare := .of_eq n5 }
theorem top_call {G : Hp} (KX : K.In z.heap) (n1 : z.heap.Ns mainGlobals mg) (n2 : z.heap.Ns builtinsNs mb) (n3 : ∀ x : Str, x ≠ "__name__" → mb x = bootBuiltins x) (n4 : z.heap.NoLimit) (n5 : z.gens = #[])
    (ha : z.heap.get? a = some { cls := .type "list", data := .seq vs.toArray }) (hr : Room k callerA) (F : ∀ base : Heap, K.In base → base.Ns mainGlobals mg → FnG P w K mg base k fa fd [x] sp) (hbind : ∀ (s : Shared) (u : Value), BindsTo s fd ⟨[u], []⟩ [(x, u)])
    (ok : HOk P w G z.heap) (only : ∀ b, G b ≠ none → b = a) (hk : G a ≠ none → K.lookup a = none) (hO : Only G) (hs : sp [.ref a] G (fun v _ => v = .bl true) E0) :
    codeAny (model P w) callerA (.call (.ref fa) ⟨[.ref a], []⟩) (fun r z' => r = .ok (.ret (.bool true)) ∧ OldK z.heap z'.heap ∧ z'.os = z.os ∧ AllBare z'.gens) z := by
  obtain ⟨kin, dn, e0⟩ := env_top KX n1 n2 n3 n4 n5 ha ok only hk
  refine codeAny_mono ((F _ kin dn).goes callerA [] z G ⟨[.ref a], []⟩ [.ref a] [.ref a] _ E0 rfl hr e0 (hbind z (.ref a)) (.cons rfl .nil) hs) fun r z' h => ?_
  match r, h with
  | .ok (.ret u), ⟨v, G', os, bare, un, ok', ru, hv⟩ =>
    have hv : v = .bl true := hv
    subst hv
    cases ru
    refine ⟨rfl, OldK.of_keep fun b o e => ?_, os, bare⟩
    rcases hO b with none_ | ⟨ob, ys, fz⟩
    · exact un.keep b o e none_ (fun q => (List.not_mem_nil (show b ∈ ([] : List Addr) from q)).elim) (by simp)
    · have f2 := un.frzs b ob _ fz
      have h1 := (ok b _ fz).1
      have h2 := (ok' b _ f2).1
      rw [e] at h1
      cases h1
      exact h2
end
/-- the end of a law whose own call stands where no repr is at work -/
theorem walk_G {l : PySem.W.OpenLaw} {n k : Nat} {q : Program} {loose : List Str} {XP : (Str → Option Value) → Heap → Prop} {YP : World → Heap → Prop} {d : DefRec} {K : Params → PySem.W.Frag} {sp : World → Sp} {x : Str}
    (hn : l.most = some n) (hn2 : n ≤ sizeLine) (hdf : d.params.defaults = []) (hr : Room k callerA) (hY : ∀ (w : World) (h : Heap), YP w h → (K w.params).In h)
    (F : ∀ (w : World) (mg : Str → Option Value) (fa : Addr) (h : Heap), (K w.params).In h → h.Ns mainGlobals mg → mg d.name = some (.ref fa) →
      ∃ fd : FuncData, (∀ (s : Shared) (u : Value), BindsTo s fd ⟨[u], []⟩ [(x, u)]) ∧ ∀ base : Heap, (K w.params).In base → base.Ns mainGlobals mg → FnG l.prog w (K w.params) mg base k fa fd [x] (sp w))
    (hsp : ∀ (w : World) (G : Hp) (a : Addr) (ns : List Int), ns.length ≤ n → SqL (K w.params) G a (ns.map V.int) → sp w [.ref a] G (fun v _ => v = .bl true) E0) :
    PySem.W.WalkO q loose XP YP l.row.toRowW d [] (fun f vs => PySem.call f vs) := by
  refine Att.attach_call hn hdf fun w z0 z mg mb fa o pm cd doc a vs ns G0 Y ho hd hcd hmg hobj hints hlen hgens => ?_
  have kin := hY w _ Y
  obtain ⟨fd, hb, hF⟩ := F w mg fa _ kin G0.T.g hmg
  have rv := vals_ints hints
  have hsz : vs.toArray.size ≤ sizeLine := by
    rw [List.size_toArray, hints.length]
    exact Nat.le_trans hlen hn2
  cases hk : (K w.params).lookup a with
  | some ob =>
    have e := kin a ob hk
    rw [hobj] at e
    cases e
    exact top_call (G := fun _ => none) kin G0.T.g G0.T.b G0.T.builtins G0.T.nolimit hgens hobj hr hF hb (fun b u e => by cases e) (fun b h => absurd rfl h) (fun h => absurd rfl h) (fun _ => .inl rfl) (hsp w _ a ns hlen (.inr ⟨_, vs.toArray, _, hk, rfl, rfl, rfl, hsz, by simpa using rv⟩))
  | none =>
    have at_a : ∀ b, (fun b => if b = a then some (HO.frz { cls := .type "list", data := .seq vs.toArray } (.lst (ns.map V.int))) else none : Hp) b ≠ none → b = a := fun b h => Classical.byContradiction fun h2 => h (if_neg h2)
    refine top_call (G := fun b => if b = a then some (.frz { cls := .type "list", data := .seq vs.toArray } (.lst (ns.map V.int))) else none) kin G0.T.g G0.T.b G0.T.builtins G0.T.nolimit hgens hobj hr hF hb (fun b u e => ?_) at_a (fun _ => hk) (fun b => ?_) (hsp w _ a ns hlen (.inl (.inr ⟨_, if_pos rfl⟩)))
    · have hb : b = a := at_a b (by rw [e]; simp)
      subst hb
      have e2 := (if_pos rfl).symm.trans e
      cases e2
      exact ⟨hobj, by rw [List.length_map]; exact Nat.le_trans hlen hn2, vs, _, rv, hobj⟩
    · by_cases hb : b = a
      · exact .inr ⟨_, _, if_pos hb⟩
      · exact .inl (if_neg hb)
end Sg

namespace Sg
open PySem PySem.Spec PyProof.Rows L2
/-! ### sorted() of tuples of texts -/
def leW (a b : List Str) : Bool := PySem.W.dataLe false dW a b
def rSortedW (K : PySem.W.Frag) : List V → Hp → VK → Prop := fun xs H Q => ∃ (a : Addr) (bs : List (V × List Str)) (n : Nat), xs = [.ref a] ∧ SqL K H a (bs.map (·.1)) ∧ (∀ b ∈ bs, Dp K H b.1 (dW b.2) ∧ b.2.length = n + 1) ∧ bs.length ≤ sizeLine ∧
  ∀ p, H p = none → Q (.ref p) (upd H p (.lst ((bs.mergeSort fun x y => leW x.2 y.2).map (·.1))))
theorem alike_strs : ∀ xs ys : List Str, PySem.W.alikeAll (xs.map .str) (ys.map .str) = true
  | [], _ => rfl
  | _ :: _, [] => rfl
  | x :: xs, y :: ys => by
    show (PySem.W.alike (.str x) (.str y) && PySem.W.alikeAll (xs.map .str) (ys.map .str)) = true
    rw [alike_strs xs ys]
    rfl
theorem each_rel : ∀ {bs : List (V × List Str)} {its : List Value}, Vals (bs.map (·.1)) its → PySem.W.EachIs (fun v b => RelV b.1 v) its bs
  | [], _, h => by
    cases h
    exact .nil
  | b :: r, _, h => by
    cases h with
    | cons h1 h2 => exact .cons h1 (each_rel h2)
theorem vals_rel : ∀ {bs : List (V × List Str)} {its : List Value}, PySem.W.EachIs (fun v b => RelV b.1 v) its bs → Vals (bs.map (·.1)) its
  | _, _, .nil => .nil
  | _, _, .cons h1 h2 => .cons h1 (vals_rel h2)
theorem each_reads {X : Cx} {pins : List (Addr × Obj)} {σ : L2.St} {H : Hp} {z : Shared} (I : Inv X pins σ H z) : ∀ {bs : List (V × List Str)} {its : List Value}, (∀ b ∈ bs, Dp X.K H b.1 (dW b.2)) → Vals (bs.map (·.1)) its → PySem.W.EachIs (fun v b => ∃ as, Reads z.heap v (dW b.2) as) its bs
  | [], _, _, h => by
    cases h
    exact .nil
  | b :: r, _, hb, h => by
    cases h with
    | cons h1 h2 => exact .cons (Dp.reads I _ _ _ (hb b (List.mem_cons_self ..)) h1) (each_reads I (fun c hc => hb c (List.mem_cons_of_mem _ hc)) h2)
theorem cr_sortedW {X : Cx} (hu : X.A.units + 65 < cLine) : CallR X (.builtin "sorted") (rSortedW X.K) := by
  intro pins z σ H xs us Q I r h
  obtain ⟨a, bs, n, rfl, hs, hb, hl, q⟩ := h
  obtain ⟨its, rv, hli, _⟩ := I.list hs
  rw [Vals.ref1 r]
  refine PySem.W.sorted_data (R := fun v (b : V × List Str) => RelV b.1 v) (enc := fun b => dW b.2) hli.isList (each_rel rv) (each_reads I (fun b h => (hb b h).1) rv) ?_ (.inl ?_) hl ?_ fun out hlen hout => ?_
  · intro d hd d' hd'
    obtain ⟨b, _, rfl⟩ := List.mem_map.mp hd
    obtain ⟨b', _, rfl⟩ := List.mem_map.mp hd'
    exact alike_strs b.2 b'.2
  · intro d hd
    obtain ⟨b, hb', rfl⟩ := List.mem_map.mp hd
    have h1 := (hb b hb').2
    cases e : b.2 with
    | nil => rw [e] at h1; simp at h1
    | cons y ys => exact ⟨.str y, ys.map .str, rfl⟩
  · intro b _
    have := dep_dW b.2
    show X.A.units + 2 + (dW b.2).depth < cLine
    omega
  · have hout : PySem.W.EachIs (fun v (b : V × List Str) => RelV b.1 v) out (bs.mergeSort fun x y => leW x.2 y.2) := hout
    obtain ⟨ep, he⟩ := PyProof.Rows.sortedAll_at z.heap its out.toArray
    refine ⟨.ref _, upd H (z.heap.objs.size + 1) (.lst ((bs.mergeSort fun x y => leW x.2 y.2).map (·.1))), I.laid (t' := z.toks) (fun _ _ => PyProof.Rows.sortedAll_old) (Nat.le_succ _) ⟨?_, out, ep, vals_rel hout, he⟩, rfl, q _ (I.hok.fresh (Nat.le_succ _))⟩
    rw [List.length_map, List.length_mergeSort]
    exact hl
end Sg

namespace Sg
open PySem PySem.Spec PyProof.Rows L2
def topS (i : Nat) : Stmt := PySem.Challenge.pw_sheafbooks_k06_cases_of_whens.main.body.getD i (.Pass ⟨0, 0, 0, 0⟩)
abbrev sTape : Stmt := topS 19
abbrev sDraw : Stmt := topS 20
theorem scTape : FnScope ["_law_script", "_law_k", "_law_cell"] ["_law_script", "_law_k"] (defScope sTape) := ⟨rfl, rfl, rfl, by decide +kernel, rfl, by decide +kernel, by decide +kernel⟩
theorem scDraw : FnScope ["_law_tape_here", "_law_many", "_law_found", "_law_once", "_law_twice", "_law_wide"] ["_law_tape_here", "_law_many"] (defScope sDraw) := ⟨rfl, rfl, rfl, by decide +kernel, rfl, by decide +kernel, by decide +kernel⟩
/-- a tape: three numbers, at most n draws done -/
def TapeAt (H : Hp) (t : Addr) (n : Nat) : Prop := ∃ a b c : Int, H t = some (.lst [.int a, .int b, .int c]) ∧ 0 ≤ b ∧ b < 2 ^ 62 ∧ 0 ≤ c ∧ c ≤ n
theorem TapeAt.mono {H : Hp} {t : Addr} {n m : Nat} (h : TapeAt H t n) (l : n ≤ m) : TapeAt H t m := by
  obtain ⟨a, b, c, e, h1, h2, h3, h4⟩ := h
  exact ⟨a, b, c, e, h1, h2, h3, by omega⟩
theorem TapeAt.keepT {H H' : Hp} {t : Addr} {n : Nat} (h : TapeAt H t n) (e : Ex t H H') : KeepT H H' := by
  obtain ⟨a, b, c, h, _⟩ := h
  exact e.keepT h
theorem TapeAt.ne_tup {H : Hp} {t p : Addr} {n : Nat} {xs : List V} (h : TapeAt H t n) (e : H p = some (.tup xs)) : p ≠ t := by
  obtain ⟨a, b, c, h, _⟩ := h
  intro q
  subst q
  rw [h] at e
  cases e
theorem TapeAt.ne_none {H : Hp} {t p : Addr} {n : Nat} (h : TapeAt H t n) (e : H p = none) : p ≠ t := by
  obtain ⟨a, b, c, h, _⟩ := h
  intro q
  subst q
  rw [h] at e
  cases e
theorem TapeAt.same {H H' : Hp} {t : Addr} {n : Nat} (h : TapeAt H t n) (e : Same H H') : TapeAt H' t n := by
  obtain ⟨a, b, c, h, r⟩ := h
  exact ⟨a, b, c, e _ _ h, r⟩
theorem TapeAt.upd {H : Hp} {t p : Addr} {n : Nat} {o : HO} (h : TapeAt H t n) (e : p ≠ t) : TapeAt (L2.upd H p o) t n := by
  obtain ⟨a, b, c, h, r⟩ := h
  exact ⟨a, b, c, by rw [upd_ne (Ne.symm e)]; exact h, r⟩
def spDraw : Sp := fun vs H Q _ => ∃ (t : Addr) (m : Int) (n : Nat), vs = [.ref t, .int m] ∧ 1 ≤ m ∧ m ≤ 1000 ∧ TapeAt H t n ∧ n ≤ 1000000 ∧
  ∀ (r : Int) (H' : Hp), Ex t H H' → TapeAt H' t (n + 1) → 0 ≤ r → r < m → Q (.int r) H'
theorem mod_lt {i j : Int} (h : 0 < j) : 0 ≤ i % j ∧ i % j < j := ⟨Int.emod_nonneg _ (by omega), Int.emod_lt_of_pos _ h⟩
section
variable {P : Program} {w : World} {K : PySem.W.Frag} {mg : Str → Option Value} {base : Heap}
theorem ok_draw {f : Addr} {fd : FuncData} {k : Nat} (F : Fun K "_law_draw" "_law_draw" sDraw f fd) : FnOk P w K mg base CX0 (k + 1) f fd ["_law_tape_here", "_law_many"] spDraw := by
  refine F.ok scDraw (fun vs H Q E h => ?_) (fun cdv A outer s H vs Q E hr h => ?_)
  · obtain ⟨t, m, n, rfl, _⟩ := h
    rfl
  · obtain ⟨t, m, n, rfl, hm1, hm2, hT, hn, q⟩ := h
    refine ⟨_, pss_cons (ps_if (pt_cmpR op_gt (pe_ix ix_list (pv 0) pe_int (fun _ _ => rfl)) pe_int (nomark _))
        (pss_cons (ps_set (i := 2) scDraw.nd rfl (.inl rfl) (pe_op op_mod (pe_ix ix_list (pv 0) pe_int (fun _ _ => rfl)) (pv 1)))
        (pss_cons (ps_asg (pe_op op_fdiv (pe_ix ix_list (pv 0) pe_int (fun _ _ => rfl)) (pv 1)) (pg_sub (pv 0) pe_int set_list))
        (pss_one (ps_ret (pv 2))))) pss_nil)
      (pss_cons (ps_asg (pe_op op_add (pe_ix ix_list (pv 0) pe_int (fun _ _ => rfl)) pe_int) (pg_sub (pv 0) pe_int set_list))
      (pss_cons (ps_set (i := 3) scDraw.nd rfl (.inl rfl) (pe_op op_mod (pe_op op_pow (pe_op op_add (pe_ix ix_list (pv 0) pe_int (fun _ _ => rfl)) (pe_op op_mul pe_int (pe_ix ix_list (pv 0) pe_int (fun _ _ => rfl)))) pe_int) pe_int))
      (pss_cons (ps_set (i := 4) scDraw.nd rfl (.inl rfl) (pe_op op_mod (pe_op op_mul (pe_op op_add (pv 3) (pe_ix ix_list (pv 0) pe_int (fun _ _ => rfl))) (pe_op op_add (pe_op op_add (pe_op op_mod (pv 3) pe_int) pe_int) (pe_ix ix_list (pv 0) pe_int (fun _ _ => rfl)))) pe_int))
      (pss_cons (ps_set (i := 5) scDraw.nd rfl (.inl rfl) (pe_op op_mod (pe_op op_add (pe_op op_add (pe_op op_fdivW (pe_ix ix_list (pv 0) pe_int (fun _ _ => rfl)) pe_int) (pe_op op_mul (pv 4) pe_int)) (pe_ix ix_list (pv 0) pe_int (fun _ _ => rfl))) pe_int))
      (pss_one (ps_ret (pe_op op_mod (pe_op op_fdiv (pe_op op_mod (pe_op op_add (pe_op op_add (pe_op op_mul (pv 4) pe_int) (pe_op op_mul (pv 5) pe_int)) (pv 3)) pe_int) pe_int) (pv 1)))))))), ?_⟩
    obtain ⟨a, b, c, e, hb0, hb1, hc0, hc1⟩ := hT
    refine ⟨.ref t, rfl, t, _, 0, .int a, rfl, rfl, SqL.of e, rfl, a, 0, rfl, rfl, _, rfl, ite2 (fun ha => ?_) (fun ha => ?_)⟩
    · refine ⟨.ref t, rfl, t, _, 0, .int a, rfl, rfl, SqL.of e, rfl, .int m, rfl, a, m, rfl, rfl, by omega, ?_⟩
      refine ⟨.ref t, rfl, t, _, 0, .int a, rfl, rfl, SqL.of e, rfl, .int m, rfl, a, m, rfl, rfl, ⟨by omega, by omega⟩, ?_⟩
      refine ⟨.ref t, rfl, t, _, 0, 0, rfl, rfl, e, rfl, ?_⟩
      refine ⟨_, rfl, ?_⟩
      exact q _ _ (Ex.upd (Ex.refl t H)) ⟨_, _, _, upd_same, hb0, hb1, hc0, by omega⟩ (mod_lt (by omega)).1 (mod_lt (by omega)).2
    · refine ⟨.ref t, rfl, t, _, 2, .int c, rfl, rfl, SqL.of e, rfl, c, 1, rfl, rfl, ?_⟩
      refine ⟨.ref t, rfl, t, _, 2, 2, rfl, rfl, e, rfl, ?_⟩
      have e1 : upd H t (.lst [.int a, .int b, .int (c + 1)]) t = some (.lst [.int a, .int b, .int (c + 1)]) := upd_same
      refine ⟨.ref t, rfl, t, _, 1, .int b, rfl, rfl, SqL.of e1, rfl, .ref t, rfl, t, _, 2, .int (c + 1), rfl, rfl, SqL.of e1, rfl, 39373, c + 1, rfl, rfl, .inl ⟨by decide, by decide⟩, b, _, rfl, rfl, _, 5, rfl, rfl, ⟨by decide, by decide, ?_⟩, _, 2147483647, rfl, rfl, (by decide : (0 : Int) < 2147483647), ?_⟩
      · show (b + 39373 * (c + 1)).natAbs < 2 ^ 64
        omega
      dsimp only
      generalize hx : (b + 39373 * (c + 1)) ^ (5 : Int).toNat % 2147483647 = x
      have hx1 := mod_lt (i := (b + 39373 * (c + 1)) ^ (5 : Int).toNat) (j := 2147483647) (by decide)
      rw [hx] at hx1
      refine ⟨.int x, rfl, .ref t, rfl, t, _, 2, .int (c + 1), rfl, rfl, SqL.of e1, rfl, x, c + 1, rfl, rfl, .int x, rfl, x, 40009, rfl, rfl, (by decide : (0 : Int) < 40009), _, 7, rfl, rfl, .ref t, rfl, t, _, 2, .int (c + 1), rfl, rfl, SqL.of e1, rfl, _, c + 1, rfl, rfl, _, _, rfl, rfl, .inl ⟨by omega, by omega⟩, _, 2147483629, rfl, rfl, (by decide : (0 : Int) < 2147483629), ?_⟩
      dsimp only
      generalize hy : (x + (c + 1)) * (x % 40009 + 7 + (c + 1)) % 2147483629 = y
      have hy1 := mod_lt (i := (x + (c + 1)) * (x % 40009 + 7 + (c + 1))) (j := 2147483629) (by decide)
      rw [hy] at hy1
      refine ⟨.ref t, rfl, t, _, 1, .int b, rfl, rfl, SqL.of e1, rfl, b, 2147483647, rfl, rfl, wide_div (b := 64) (by decide) (by decide) (by decide) (by decide), .int y, rfl, y, 40009, rfl, rfl, .inl ⟨by omega, by omega⟩, _, _, rfl, rfl, .ref t, rfl, t, _, 2, .int (c + 1), rfl, rfl, SqL.of e1, rfl, _, c + 1, rfl, rfl, _, 2305843009213693951, rfl, rfl, (by decide : (0 : Int) < 2305843009213693951), ?_⟩
      dsimp only
      generalize hz : (b / 2147483647 + y * 40009 + (c + 1)) % 2305843009213693951 = z
      have hz1 := mod_lt (i := (b / 2147483647 + y * 40009 + (c + 1))) (j := 2305843009213693951) (by decide)
      rw [hz] at hz1
      refine ⟨.int y, rfl, y, 48271, rfl, rfl, .inl ⟨by omega, by omega⟩, .int z, rfl, z, 39373, rfl, rfl, .inl ⟨by omega, by omega⟩, _, _, rfl, rfl, .int x, rfl, _, x, rfl, rfl, _, 2305843009213693921, rfl, rfl, (by decide : (0 : Int) < 2305843009213693921), _, 64, rfl, rfl, ⟨by decide, by decide⟩, .int m, rfl, _, m, rfl, rfl, by omega, ?_⟩
      exact q _ _ (Ex.upd (Ex.refl t H)) ⟨_, _, _, upd_same, hb0, hb1, by omega, by omega⟩ (mod_lt (by omega)).1 (mod_lt (by omega)).2
end
end Sg

namespace Sg
open PySem PySem.Spec PyProof.Rows L2
abbrev sFolded : Stmt := topS 21
theorem scFolded : FnScope ["_law_script", "_law_many", "_law_cells", "_law_k", "_law_cell"] ["_law_script", "_law_many"] (defScope sFolded) := ⟨rfl, rfl, rfl, by decide +kernel, rfl, by decide +kernel, by decide +kernel⟩
section
variable {P : Program} {w : World} {K : PySem.W.Frag} {mg : Str → Option Value} {base : Heap}
theorem b01 (b : Bool) : -(2 ^ 64) < (if b = true then (1 : Int) else 0) ∧ (if b = true then (1 : Int) else 0) < 2 ^ 64 := by
  cases b <;> decide
def spTape (K : PySem.W.Frag) : Sp := fun vs H Q _ => ∃ (a : Addr) (k : Nat) (ns : List Int), vs = [.ref a, .int (k : Int)] ∧ SqL K H a (ns.map V.int) ∧ k ≤ 1000 ∧
  ∀ (t : Addr) (H' : Hp), Same H H' → H t = none → TapeAt H' t 0 → Q (.ref t) H'
theorem ok_tape {f : Addr} {fd : FuncData} {k : Nat} (F : Fun K "_law_tape" "_law_tape" sTape f fd) (ml : mg "len" = none) (ma : mg "abs" = none) (mi : mg "int" = none) : FnOk P w K mg base CX0 (k + 1) f fd ["_law_script", "_law_k"] (spTape K) := by
  refine F.ok scTape (fun vs H Q E h => ?_) (fun cdv A outer s H vs Q E hr h => ?_)
  · obtain ⟨a, k, ns, rfl, _⟩ := h
    rfl
  · obtain ⟨a, j, ns, rfl, hS, hj1, q⟩ := h
    refine ⟨_, pss_cons (ps_set (i := 2) scTape.nd rfl (.inl rfl) (pe_ifExp (pt_cmpR op_lt (pv 1) (pe_callB call_len_seq (by rfl) ml PySem.boot_len (pa_cons (pv 0) pa_nil)) (nomark _)) (pe_ix ix_list (pv 0) (pv 1) (fun _ _ => rfl)) pe_int))
      (pss_one (ps_ret (pe_lst (pa_cons (pe_op op_mul (pe_callB call_abs (by rfl) ma (by decide +kernel) (pa_cons (pv 2) pa_nil)) (pe_callTy call_int1 (by rfl) mi (by decide +kernel) (pa_cons (pe_cmpR op_ge (pe_callB call_abs (by rfl) ma (by decide +kernel) (pa_cons (pv 2) pa_nil)) (pe_op op_pow pe_int pe_int) (nomark _)) pa_nil)))
        (pa_cons (pe_op op_add (pe_op op_add (pe_op op_mod (pv 2) pe_int) (pe_op op_mul pe_int (pv 1))) pe_int) (pa_cons pe_int pa_nil)))))), ?_⟩
    refine ⟨.int j, rfl, .ref a, rfl, a, _, rfl, .inl hS, j, _, rfl, rfl, _, rfl, ite2 (fun hc => ?_) (fun hc => ?_)⟩
    · have hc' : (j : Int) < ((ns.map V.int).length : Int) := of_decide_eq_true hc
      rw [List.length_map] at hc'
      have hj : j < ns.length := by omega
      have g : atI (ns.map V.int) (j : Int) = some (.int ns[j]) := atI_nat (by rw [List.getElem?_map, List.getElem?_eq_getElem hj]; rfl)
      refine ⟨.ref a, rfl, .int j, rfl, a, _, j, .int ns[j], rfl, rfl, hS, g, ?_⟩
      refine ⟨_, rfl, _, rfl, _, rfl, _, rfl, 10, 18, rfl, rfl, ⟨by decide, by decide, by decide⟩, _, _, rfl, rfl, .inr ⟨_, rfl, _, _, rfl, rfl, .inr ⟨?_, ?_⟩, ?_⟩⟩
      · exact (b01 _).1
      · exact (b01 _).2
      refine ⟨_, rfl, _, 2305843009213693951, rfl, rfl, (by decide : (0 : Int) < 2305843009213693951), .int j, rfl, 39373, j, rfl, rfl, .inl ⟨by decide, by decide⟩, _, _, rfl, rfl, _, _, rfl, rfl, (by show 3 ≤ sizeLine; decide), fun t nt => ?_⟩
      have hm := mod_lt (i := ns[j]) (j := 2305843009213693951) (by decide)
      exact q _ _ (same_upd nt) nt ⟨_, _, _, upd_same, by omega, by omega, by omega, by omega⟩
    · refine ⟨_, rfl, _, rfl, _, rfl, _, rfl, 10, 18, rfl, rfl, ⟨by decide, by decide, by decide⟩, _, _, rfl, rfl, .inr ⟨_, rfl, _, _, rfl, rfl, .inr ⟨?_, ?_⟩, ?_⟩⟩
      · exact (b01 _).1
      · exact (b01 _).2
      refine ⟨_, rfl, _, 2305843009213693951, rfl, rfl, (by decide : (0 : Int) < 2305843009213693951), .int j, rfl, 39373, j, rfl, rfl, .inl ⟨by decide, by decide⟩, _, _, rfl, rfl, _, _, rfl, rfl, (by show 3 ≤ sizeLine; decide), fun t nt => ?_⟩
      exact q _ _ (same_upd nt) nt ⟨_, _, _, upd_same, by omega, by omega, by omega, by omega⟩
theorem cut_len {α : Type} (xs : List α) (n : Nat) : (xs.take n).length = min n xs.length := List.length_take
def spFolded (K : PySem.W.Frag) : Sp := fun vs H Q _ => ∃ (a : Addr) (m : Nat) (ns : List Int), vs = [.ref a, .int (m : Int)] ∧ SqL K H a (ns.map V.int) ∧ 1 ≤ m ∧ m ≤ 60 ∧ ns.length ≤ 63 ∧
  ∀ (c : Addr) (H' : Hp) (ms : List Int), Same H H' → H c = none → H' c = some (.lst (ms.map V.int)) → ms.length = min m ns.length → Q (.ref c) H'
theorem cut_ints (ns : List Int) (lo hi : Option Int) : cutV (ns.map V.int) lo hi = ((ns.drop (HT.sIx ns.length 0 lo)).take (HT.sIx ns.length ns.length hi - HT.sIx ns.length 0 lo)).map V.int := by
  unfold cutV
  rw [List.length_map, ← List.map_drop, ← List.map_take]
theorem ok_folded {f : Addr} {fd : FuncData} {k : Nat} (F : Fun K "_law_folded" "_law_folded" sFolded f fd) (ml : mg "list" = none) (me : mg "enumerate" = none) : FnOk P w K mg base CX0 (k + 1) f fd ["_law_script", "_law_many"] (spFolded K) := by
  refine F.ok scFolded (fun vs H Q E h => ?_) (fun cdv A outer s H vs Q E hr h => ?_)
  · obtain ⟨a, m, ns, rfl, _⟩ := h
    rfl
  · obtain ⟨a, m, ns, rfl, hS, hm0, hm1, hn, q⟩ := h
    refine ⟨_, pss_cons (ps_set (i := 2) scFolded.nd rfl (.inl rfl) (pe_callTy call_list_of (by rfl) ml (by decide +kernel) (pa_cons (pe_slice sl_list (pv 0) po_none (po_some (pv 1))) pa_nil)))
      (pss_cons (ps_for PassesOwn.never rfl (pi_enum (by rfl) me (pa_cons (pe_slice sl_list (pv 0) (po_some (pv 1)) (po_some pe_int)) pa_nil))
          (pg_tup rfl (pgs_cons (pg_name (i := 3) scFolded.nd rfl (.inl rfl)) (pgs_cons (pg_name (i := 4) scFolded.nd rfl (.inl rfl)) pgs_nil)))
        (pss_one (ps_asg (pe_op op_add (pe_ix ix_list (pv 2) (pe_op op_mod (pv 3) (pv 1)) (fun _ _ => rfl)) (pe_op op_mul (pv 4) (pe_op op_add (pv 3) pe_int))) (pg_sub (pv 2) (pe_op op_mod (pv 3) (pv 1)) set_list))))
      (pss_one (ps_ret (pv 2)))), ?_⟩
    refine ⟨.ref a, rfl, .int (m : Int), rfl, (m : Int), rfl, a, _, rfl, hS, fun s1 n1 => ⟨s1, _, rfl, .inl (SqL.of upd_same), fun c nc => ?_⟩⟩
    have sm1 : Same H (upd H s1 (.lst (cutV (ns.map V.int) none (some (m : Int))))) := same_upd n1
    have sm2 := Same.trans sm1 (same_upd (o := .lst (cutV (ns.map V.int) none (some (m : Int)))) nc)
    refine ⟨.ref a, rfl, .int (m : Int), rfl, (m : Int), rfl, 63, rfl, a, _, rfl, Same.seq sm2 hS, fun d nd => ⟨d, _, rfl, SqL.of upd_same, ?_⟩⟩
    have sm3 := Same.trans sm2 (same_upd (o := .lst (cutV (ns.map V.int) (some (m : Int)) (some 63))) nd)
    have hcH : H c = none := sm1.free nc
    have ndc : c ≠ d := fun e => by
      subst e
      rw [upd_same] at nd
      cases nd
    have e1 : HT.sIx ns.length 0 none = 0 := rfl
    have e2 : HT.sIx ns.length ns.length (some (m : Int)) = min m ns.length := HT.sIx_nat _ _ _
    have e3 : HT.sIx ns.length 0 (some (m : Int)) = min m ns.length := HT.sIx_nat _ _ _
    have len1 : ((ns.drop 0).take (min m ns.length - 0)).length = min m ns.length := by
      rw [List.length_take, List.drop_zero]
      omega
    generalize hzs : (ns.drop (HT.sIx ns.length 0 (some (m : Int)))).take (HT.sIx ns.length ns.length (some 63) - HT.sIx ns.length 0 (some (m : Int))) = zs
    have hzl : zs.length ≤ ns.length - min m ns.length := by
      rw [← hzs, List.length_take, List.length_drop, e3]
      omega
    have hcut : cutV (ns.map V.int) (some (m : Int)) (some 63) = zs.map V.int := by rw [cut_ints, hzs]
    rw [hcut] at sm3 ⊢
    refine for_it (walk_enum (xs := zs.map V.int)) (fun i σ H3 => ∃ (y3 y4 : Option V) (ms : List Int), σ = [some (.ref a), some (.int (m : Int)), some (.ref c), y3, y4] ∧ Same H H3 ∧ H3 c = some (.lst (ms.map V.int)) ∧ ms.length = min m ns.length ∧ H3 d = some (.lst (zs.map V.int))) ?_ ?_ ?_ ?_
    · refine ⟨none, none, _, rfl, sm3, ?_, len1, upd_same⟩
      rw [upd_ne ndc, upd_same, cut_ints, e1, e2]
    · rintro i σ H3 _ ⟨y3, y4, ms, rfl, sm, hc, hl, hd⟩
      exact SqL.of hd
    · rintro i x σ H3 H4 hi ⟨y3, y4, ms, rfl, sm, hc, hl, hd⟩ ⟨T, x1, x2, rfl, nT, rfl, f1, f2⟩
      rw [List.length_map] at hi
      cases f1
      have f2 : (zs.map V.int)[i]? = some x2 := f2
      rw [List.getElem?_map, List.getElem?_eq_getElem hi] at f2
      cases f2
      have hlm : ms.length = m := by omega
      have nTc : c ≠ T := ne_of_none hc nT
      have nTd : d ≠ T := ne_of_none hd nT
      have hc' : upd H3 T (.tup [.int (i : Nat), .int zs[i]]) c = some (.lst (ms.map V.int)) := by rw [upd_ne nTc]; exact hc
      have him : i % m < ms.length := by
        rw [hlm]
        exact Nat.mod_lt _ (by omega)
      have ei : ((i : Nat) : Int) % (m : Int) = ((i % m : Nat) : Int) := by rw [Int.natCast_emod]
      have g : atI (ms.map V.int) (((i : Nat) : Int) % (m : Int)) = some (.int ms[i % m]) := by
        rw [ei]
        exact atI_nat (by rw [List.getElem?_map, List.getElem?_eq_getElem him]; rfl)
      have g2 : ixN (ms.map V.int).length (((i : Nat) : Int) % (m : Int)) = some (i % m) := by
        rw [ei, List.length_map]
        unfold ixN
        rw [if_pos (by omega), if_pos (by omega), Int.toNat_natCast]
      refine ⟨T, _, rfl, SqT.of upd_same, rfl, _, _, rfl, _, _, rfl, rfl, ?_⟩
      refine ⟨.ref c, rfl, .int (i : Nat), rfl, .int (m : Int), rfl, _, _, rfl, rfl, by omega, c, _, _, .int ms[i % m], rfl, rfl, SqL.of hc', g, .int zs[i], rfl, .int (i : Nat), rfl, _, 2, rfl, rfl, _, _, rfl, rfl, .inr ⟨by omega, by omega⟩, _, _, rfl, rfl, ?_⟩
      refine ⟨.ref c, rfl, .int (i : Nat), rfl, .int (m : Int), rfl, _, _, rfl, rfl, by omega, c, _, _, i % m, rfl, rfl, hc', g2, ?_⟩
      refine ⟨some (.int (i : Nat)), some (.int zs[i]), ms.set (i % m) (ms[i % m] + zs[i] * ((i : Int) + 2)), rfl, fun b z e => ?_, ?_, ?_, ?_⟩
      · rw [upd_ne (fun q => by subst q; rw [hcH] at e; cases e), upd_ne (ne_of_none (sm _ _ e) nT)]
        exact sm _ _ e
      · rw [upd_same, List.map_set]
      · rw [List.length_set]
        exact hl
      · rw [upd_ne ndc.symm, upd_ne nTd]
        exact hd
    · rintro σ H3 ⟨y3, y4, ms, rfl, sm, hc, hl, hd⟩
      exact ⟨.ref c, rfl, q _ _ ms sm hcH hc hl⟩
end
end Sg

namespace Sg
open PySem PySem.Spec PyProof.Rows L2
abbrev sNames : Stmt := topS 22
abbrev nNames : List Str := ["_law_tape_here", "_law_many", "_law_letters", "_law_shift", "_law_k", "_law_stem", "_law_at", "_law_step", "_law_found", "_law_head", "_law_tail", "_law_way", "_law_sign"]
theorem scNames : FnScope nNames ["_law_tape_here", "_law_many"] (defScope sNames) := ⟨rfl, rfl, rfl, by decide +kernel, rfl, by decide +kernel, by decide +kernel⟩
abbrev abc : Str := Str.ofString "abcdefghijklmnopqrstuvwxyz"
theorem abc_len : abc.cps.toList.length = 26 := by decide +kernel
theorem abc_low : ∀ c ∈ abc.cps.toList, 97 ≤ c ∧ c ≤ 122 := by decide +kernel
theorem abc_code : ∀ j, j < 26 → abc.cps.toList[j]? = some (97 + j) := by decide +kernel
theorem letter {i : Int} (h0 : 0 ≤ i) (h1 : i < 26) : ∃ c : Nat, atI abc.cps.toList i = some c ∧ Low ⟨#[c]⟩ ∧ (c : Int) = 97 + i := by
  obtain ⟨j, rfl⟩ : ∃ j : Nat, i = j := ⟨i.toNat, by omega⟩
  have hj : j < abc.cps.toList.length := by rw [abc_len]; omega
  have hcode : abc.cps.toList[j] = 97 + j := Option.some.inj ((List.getElem?_eq_getElem hj).symm.trans (abc_code j (by omega)))
  refine ⟨abc.cps.toList[j], atI_nat (List.getElem?_eq_getElem hj), fun c hc => ?_, by rw [hcode]; omega⟩
  have e : (⟨#[abc.cps.toList[j]]⟩ : Str).cps.toList = [abc.cps.toList[j]] := rfl
  rw [e] at hc
  rw [List.mem_singleton.mp hc]
  exact abc_low _ (List.getElem_mem hj)
theorem three {α : Type} {r : Int} (h0 : 0 ≤ r) (h1 : r < 3) (x y z : α) : ∃ v, atI [x, y, z] r = some v ∧ (v = x ∨ v = y ∨ v = z) := by
  have : r = 0 ∨ r = 1 ∨ r = 2 := by omega
  rcases this with rfl | rfl | rfl
  · exact ⟨x, rfl, .inl rfl⟩
  · exact ⟨y, rfl, .inr (.inl rfl)⟩
  · exact ⟨z, rfl, .inr (.inr rfl)⟩
theorem threeE {α : Type} {r : Int} (h0 : 0 ≤ r) (h1 : r < 3) (x y z : α) : atI [x, y, z] r = some (if r = 0 then x else if r = 1 then y else z) := by
  have : r = 0 ∨ r = 1 ∨ r = 2 := by omega
  rcases this with rfl | rfl | rfl <;> rfl
/-- the number that the way takes -/
def selM (W : Int) (j : Nat) : Int := if W = 1 then ((j / 2 : Nat) : Int) else (j : Int)
/-- names as they are made: one head, a letter, a tail -/
def Frm (hd tl : Str) (sh st W : Int) (ws : List Str) : Prop := ∀ (j : Nat) (x : Str), ws[j]? = some x → ∃ (c : Nat) (tj : Str), x = hd ++ ⟨#[c]⟩ ++ tj ∧ (c : Int) = 97 + (sh + st * selM W j) % 26 ∧ (W = 1 → tj = if j % 2 = 0 then Str.empty else tl)
theorem sel_inj {sh st : Int} {a b : Nat} (hst : st = 1 ∨ st = 7 ∨ st = 25) (ha : a < 26) (hb : b < 26) (h : (sh + st * (a : Int)) % 26 = (sh + st * (b : Int)) % 26) : a = b := by
  rcases hst with rfl | rfl | rfl <;> omega
theorem str_cut {hd a b ta tb : Str} {c d : Nat} (h : hd ++ (⟨#[c]⟩ : Str) ++ ta = hd ++ (⟨#[d]⟩ : Str) ++ tb) : c = d ∧ ta = tb := by
  have e := congrArg (fun x : Str => x.cps.toList) h
  have l : ∀ (c : Nat) (t : Str), (hd ++ (⟨#[c]⟩ : Str) ++ t).cps.toList = hd.cps.toList ++ (c :: t.cps.toList) := fun c t => by
    have e1 := TL.tl_append (hd ++ (⟨#[c]⟩ : Str)) t
    have e2 := TL.tl_append hd (⟨#[c]⟩ : Str)
    show TL.tl (hd ++ (⟨#[c]⟩ : Str) ++ t) = _
    rw [e1, e2, List.append_assoc]
    rfl
  simp only [l] at e
  have e2 := List.append_cancel_left e
  have e3 := (List.cons.inj e2)
  refine ⟨e3.1, ?_⟩
  have e4 := e3.2
  cases ta with
  | mk x =>
    cases tb with
    | mk y =>
      have : x = y := by
        have := congrArg List.toArray e4
        simpa using this
      rw [this]
theorem Frm.nodup {hd tl : Str} {sh st W : Int} {ws : List Str} (h : Frm hd tl sh st W ws) (hst : st = 1 ∨ st = 7 ∨ st = 25) (hl : ws.length ≤ 26) (hW : W = 1 → tl ≠ Str.empty) : ws.Nodup := by
  rw [List.nodup_iff_pairwise_ne, List.pairwise_iff_getElem]
  intro i j hi hj hij e
  obtain ⟨c, t1, h1, h2, h3⟩ := h i _ (List.getElem?_eq_getElem hi)
  obtain ⟨d, t2, g1, g2, g3⟩ := h j _ (List.getElem?_eq_getElem hj)
  rw [h1, g1] at e
  obtain ⟨e1, e2⟩ := str_cut (a := hd) (b := hd) e
  subst e1
  have em : (sh + st * selM W i) % 26 = (sh + st * selM W j) % 26 := by omega
  by_cases w1 : W = 1
  · have s1 : selM W i = ((i / 2 : Nat) : Int) := if_pos w1
    have s2 : selM W j = ((j / 2 : Nat) : Int) := if_pos w1
    rw [s1, s2] at em
    have := sel_inj hst (by omega) (by omega) em
    have p1 := h3 w1
    have p2 := g3 w1
    rw [p1, p2] at e2
    have hne := hW w1
    by_cases z : i % 2 = 0
    · rw [if_pos z, if_neg (by omega)] at e2
      exact hne e2.symm
    · rw [if_neg z, if_pos (by omega)] at e2
      exact hne e2
  · have s1 : selM W i = (i : Int) := if_neg w1
    have s2 : selM W j = (j : Int) := if_neg w1
    rw [s1, s2] at em
    have := sel_inj hst (by omega) (by omega) em
    omega
theorem sz (n : Nat) (h : n ≤ 1000) : n ≤ sizeLine := Nat.le_of_lt (small1000 h)
section
variable {P : Program} {w : World} {K : PySem.W.Frag} {mg : Str → Option Value} {base : Heap}
def spNames : Sp := fun vs H Q _ => ∃ (t : Addr) (m n : Nat), vs = [.ref t, .int (m : Int)] ∧ m ≤ 60 ∧ TapeAt H t n ∧ n ≤ 900000 ∧
  ∀ (p : Addr) (H' : Hp) (ws : List Str), Ex t H H' → TapeAt H' t (n + 12) → H p = none → H' p = some (.lst (ws.map V.str)) → ws.length = m → (∀ x ∈ ws, Wd x) → (m ≤ 26 → ws.Nodup) → Q (.ref p) H'
theorem ok_names {f fD : Addr} {fd fdD : FuncData} {k : Nat} (F : Fun K "_law_names" "_law_names" sNames f fd) (FD : Fun K "_law_draw" "_law_draw" sDraw fD fdD) (bD : Binds K fdD ["_law_tape_here", "_law_many"] []) (gD : mg "_law_draw" = some (.ref fD))
    (ml : mg "len" = none) (mr : mg "range" = none) (mi : mg "int" = none) : FnOk P w K mg base CX0 (k + 2) f fd ["_law_tape_here", "_law_many"] spNames := by
  have GD : FnOk P w K mg base CX0 (k + 1) fD fdD ["_law_tape_here", "_law_many"] spDraw := ok_draw FD
  refine F.ok scNames (fun vs H Q E h => ?_) (fun cdv A outer s H vs Q E hr h => ?_)
  · obtain ⟨t, m, n, rfl, _⟩ := h
    rfl
  · obtain ⟨t, m, n, rfl, hm, hT, hn, q⟩ := h
    refine ⟨_, pss_cons (ps_asg (pe_tup (pa_cons pe_str (pa_cons (pe_call GD hr (by rfl) gD FD.kp bD .nil pass0 (pa_cons (pv 0) (pa_cons pe_int pa_nil))) pa_nil))) (pg_tup rfl (pgs_cons (pg_name (i := 2) scNames.nd rfl (.inr rfl)) (pgs_cons (pg_name (i := 3) scNames.nd rfl (.inl rfl)) pgs_nil))))
      (pss_cons (ps_set (i := 5) scNames.nd rfl (.inl rfl) (pe_join pe_str (pe_lc (own := [("_law_k", 4)]) (g := gName 4) (tt := tYes) rfl scNames.nd (pi_range1 rfl mr (pa_cons (pe_call GD hr (by rfl) gD FD.kp bD .nil pass0 (pa_cons (pv 0) (pa_cons pe_int pa_nil))) pa_nil)) (blkOk_by (N := nNames) (sc := defScope sNames) (by decide +kernel))
          (fun _ _ _ _ _ => pg_name (i := 4) scNames.nd rfl (.inl rfl)) (fun _ _ _ _ _ => pts_nil) (fun _ _ _ _ _ => pe_ix ix_str (pv 2) (pe_call GD hr (by rfl) gD FD.kp bD .nil pass0 (pa_cons (pv 0) (pa_cons pe_int pa_nil))) (fun _ _ => rfl)))))
      (pss_cons (ps_par3 (i := 6) (j := 7) (l := 8) rfl scNames.nd rfl rfl rfl (by decide) (by decide) (by decide) rfl rfl rfl (pa_cons (pe_call GD hr (by rfl) gD FD.kp bD .nil pass0 (pa_cons (pv 0) (pa_cons (pe_op op_add (pe_callB call_len_str (by rfl) ml PySem.boot_len (pa_cons (pv 5) pa_nil)) pe_int) pa_nil)))
          (pa_cons (pe_ix ix_list (pe_lst (pa_cons pe_int (pa_cons pe_int (pa_cons pe_int pa_nil)))) (pe_call GD hr (by rfl) gD FD.kp bD .nil pass0 (pa_cons (pv 0) (pa_cons pe_int pa_nil))) (fun _ _ => rfl)) (pa_cons (pe_lst pa_nil) pa_nil))) rfl)
      (pss_cons (ps_par (i := 9) (j := 10) rfl scNames.nd rfl rfl (by decide) rfl rfl (pa_cons (pe_slice sl_str (pv 5) po_none (po_some (pv 6))) (pa_cons (pe_slice sl_str (pv 5) (po_some (pv 6)) po_none) pa_nil)) rfl)
      (pss_cons (ps_for PassesOwn.never rfl (pi_range1 rfl mr (pa_cons (pv 1) pa_nil)) (pg_name (i := 4) scNames.nd rfl (.inl rfl))
        (pss_cons (ps_set (i := 11) scNames.nd rfl (.inl rfl) (pe_op op_mul (pe_op op_mod (pe_op op_add (pe_op op_add (pv 3) (pv 6)) (pe_callB call_len_str (by rfl) ml PySem.boot_len (pa_cons (pv 5) pa_nil))) pe_int) (pe_callTy call_int1 (by rfl) mi (by decide +kernel) (pa_cons (pe_cmpR op_ne (pv 10) pe_str (nomark _)) pa_nil))))
        (pss_cons (ps_set (i := 12) scNames.nd rfl (.inl rfl) (pe_ix ix_str (pv 2) (pe_op op_mod (pe_op op_add (pv 3) (pe_op op_mul (pv 7) (pe_ix ix_list (pe_lst (pa_cons (pv 4) (pa_cons (pe_op op_fdiv (pv 4) pe_int) (pa_cons (pv 4) pa_nil)))) (pv 11) (fun _ _ => rfl)))) pe_int) (fun _ _ => rfl)))
        (pss_one (ps_expr (pe_bm PySem.F.plainAttrs_list PySem.F.slot_list_append PySem.F.type_list_append mt_append (pv 8) (pa_cons (pe_op op_add_str (pe_op op_add_str (pv 9) (pv 12)) (pe_ix ix_list (pe_lst (pa_cons (pv 10) (pa_cons (pe_op op_repS (pv 10) (pe_op op_mod (pv 4) pe_int)) (pa_cons (pe_slice sl_str (pv 10) po_none (po_some (pe_op op_mod (pv 4) (pe_op op_add (pe_callB call_len_str (by rfl) ml PySem.boot_len (pa_cons (pv 10) pa_nil)) pe_int)))) pa_nil)))) (pv 11) (fun _ _ => rfl))) pa_nil)))))))
      (pss_one (ps_ret (pv 8))))))), ?_⟩
    have nt : ∀ {G : Hp} {j : Nat} {a : Addr}, TapeAt G t j → G a = none → a ≠ t := fun h e => h.ne_none e
    -- letters, shift
    refine ⟨.ref t, rfl, t, 26, n, rfl, by decide, by decide, hT, by omega, fun sh H1 x1 T1 hs0 hs1 => ⟨by show 2 ≤ sizeLine; decide, fun tp ntp => ?_⟩⟩
    have T1' : TapeAt (upd H1 tp (.tup [.str abc, .int sh])) t (n + 1) := T1.upd (nt T1 ntp)
    have x1' : Ex t H (upd H1 tp (.tup [.str abc, .int sh])) := x1.trans (Same.ex (same_upd ntp))
    refine ⟨tp, _, rfl, SqT.of upd_same, rfl, _, _, rfl, _, _, rfl, rfl, ?_⟩
    -- stem
    refine ⟨⟨_, rfl⟩, .ref t, rfl, t, 8, n + 1, rfl, by decide, by decide, T1', by omega, fun r H2 x2 T2 hr0 hr1 => ⟨r, rfl, by omega, by omega, fun D nD => ?_⟩⟩
    refine lc_it (walk_range (lo := 0) (n := r.toNat)) (fun i H3 => ∃ cs : List Str, Ex t H H3 ∧ TapeAt H3 t (n + 2 + i) ∧ H3 D = some (.lst (cs.map V.str)) ∧ cs.length = i ∧ (cs.map (·.length)).sum = i ∧ ∀ x ∈ cs, Low x) ?_ (fun _ _ _ _ => trivial) ?_ ?_
    · exact ⟨[], (x1'.trans x2).trans (Same.ex (same_upd nD)), T2.upd (nt T2 nD), upd_same, rfl, rfl, fun x hx => by cases hx⟩
    · rintro i x H3 H4 hi ⟨cs, x3, T3, e3, l3, u3, w3⟩ ⟨rfl, rfl⟩
      refine ⟨rfl, .str abc, rfl, .ref t, rfl, t, 26, n + 2 + i, rfl, by decide, by decide, T3, by omega, fun r2 H5 x5 T5 h50 h51 => ?_⟩
      obtain ⟨c, hc, lowc, _⟩ := letter h50 h51
      have hDt : D ≠ t := nt T2 nD
      have e5 := x5 D _ hDt e3
      refine ⟨abc, r2, c, rfl, rfl, (by decide +kernel), hc, _, e5, ?_, cs ++ [⟨#[c]⟩], ?_, ?_, ?_, ?_, ?_, ?_⟩
      · rw [List.length_map, l3]
        exact small1000 (by omega)
      · intro a o ha ho
        have hD : a ≠ D := by
          intro ea
          subst ea
          rw [x2.free ha nD |> x1'.free ha] at ho
          cases ho
        rw [upd_ne hD]
        exact x5 _ _ ha (x3 _ _ ha ho)
      · have := T5.upd (o := .lst (cs.map V.str ++ [.str ⟨#[c]⟩])) hDt
        exact this.mono (by omega)
      · rw [upd_same, List.map_append]
        rfl
      · rw [List.length_append, l3]
        rfl
      · rw [List.map_append, List.sum_append, u3]
        rfl
      · intro x hx
        rcases List.mem_append.mp hx with hx | hx
        · exact w3 x hx
        · rw [List.mem_singleton.mp hx]
          exact lowc
    · rintro H3 ⟨cs, x3, T3, e3, l3, u3, w3⟩
      refine ⟨Str.ofString "", D, cs, rfl, rfl, .inl (SqL.of e3), ?_, ?_⟩
      · rw [u3, l3, show (Str.ofString "").length = 0 by decide +kernel]
        omega
      have hlen : (Txt.join (Str.ofString "") cs).length ≤ 7 := by
        rw [show Txt.join (Str.ofString "") cs = Str.join (Str.ofString "") cs from StrLaws.glued_eq_join _ _]
        have := StrLaws.join_length_le (Str.ofString "") cs
        rw [u3, show (Str.ofString "").length = 0 by decide +kernel] at this
        omega
      have hlow : Low (Txt.join (Str.ofString "") cs) := by
        rw [show Txt.join (Str.ofString "") cs = Str.join (Str.ofString "") cs from StrLaws.glued_eq_join _ _]
        exact Low.join cs w3
      generalize Txt.join (Str.ofString "") cs = stem at hlen hlow ⊢
      -- at, step, found
      refine ⟨.ref t, rfl, .str stem, rfl, stem, rfl, sz _ (by omega), _, 1, rfl, rfl, t, _, n + 2 + r.toNat, rfl, by omega, by omega, T3, by omega, fun at_ H4 x4 T4 h40 h41 => ?_⟩
      refine ⟨by show 3 ≤ sizeLine; decide, fun l nl => ?_⟩
      have nlt := nt T4 nl
      refine ⟨.ref t, rfl, t, 3, n + 2 + r.toNat + 1, rfl, by decide, by decide, T4.upd nlt, by omega, fun r3 H5 x5 T5 h50 h51 => ?_⟩
      obtain ⟨stv, hst, hst2⟩ := three h50 h51 (V.int 1) (.int 7) (.int 25)
      obtain ⟨st, rfl, hst0, hst1, hst3⟩ : ∃ st : Int, stv = .int st ∧ 0 ≤ st ∧ st ≤ 25 ∧ (st = 1 ∨ st = 7 ∨ st = 25) := by
        rcases hst2 with rfl | rfl | rfl
        · exact ⟨1, rfl, by decide, by decide, .inl rfl⟩
        · exact ⟨7, rfl, by decide, by decide, .inr (.inl rfl)⟩
        · exact ⟨25, rfl, by decide, by decide, .inr (.inr rfl)⟩
      refine ⟨l, _, r3, .int st, rfl, rfl, SqL.of (x5 l _ nlt upd_same), hst, ?_⟩
      refine ⟨Nat.zero_le _, fun p np => ⟨_, _, _, rfl, ?_⟩⟩
      have npt := nt T5 np
      have T6 : TapeAt (upd H5 p (.lst [])) t (n + 12) := (T5.upd npt).mono (by omega)
      have x6 : Ex t H (upd H5 p (.lst [])) := ((x3.trans x4).trans (Same.ex (same_upd nl))).trans (x5.trans (Same.ex (same_upd np)))
      have hpH : H p = none := ((x3.trans x4).trans (Same.ex (same_upd nl))).trans x5 |>.free npt np
      -- head, tail
      refine ⟨.str stem, rfl, .int at_, rfl, at_, rfl, stem, rfl, sz _ (by omega), .str stem, rfl, .int at_, rfl, at_, rfl, stem, rfl, sz _ (by omega), _, _, rfl, ?_⟩
      have lh : (cutS stem none (some at_)).length ≤ 7 := Nat.le_trans (cutS_length _ _ _) hlen
      have lt : (cutS stem (some at_) none).length ≤ 7 := Nat.le_trans (cutS_length _ _ _) hlen
      have wh : Low (cutS stem none (some at_)) := hlow.cut _ _
      have wt : Low (cutS stem (some at_) none) := hlow.cut _ _
      generalize cutS stem none (some at_) = hd at lh wh ⊢
      generalize cutS stem (some at_) none = tl at lt wt ⊢
      obtain ⟨wy, hwy, hw0, hw1, hwe⟩ : ∃ wy : Int, (sh + at_ + (stem.length : Int)) % 3 * (if (!decide (V.str tl = V.str (Str.ofString ""))) = true then (1 : Int) else 0) = wy ∧ 0 ≤ wy ∧ wy < 3 ∧ (wy = 1 → tl ≠ Str.empty) := by
        have hw3 := mod_lt (i := sh + at_ + (stem.length : Int)) (j := 3) (by decide)
        refine ⟨_, rfl, ?_⟩
        split
        · rename_i hz
          rw [Int.mul_one]
          refine ⟨hw3.1, hw3.2, fun _ e => ?_⟩
          rw [e] at hz
          revert hz
          decide +kernel
        · rw [Int.mul_zero]
          exact ⟨by decide, by decide, fun z => by cases z⟩
      -- the loop
      refine ⟨.int (m : Int), rfl, (m : Int), rfl, by omega, by omega, ?_⟩
      refine for_it (walk_range (lo := 0) (n := (m : Int).toNat)) (fun i σ H7 => ∃ (y4 y11 y12 : Option V) (ws : List Str), σ = [some (.ref t), some (.int (m : Int)), some (.str abc), some (.int sh), y4, some (.str stem), some (.int at_), some (.int st), some (.ref p), some (.str hd), some (.str tl), y11, y12] ∧ Ex t H H7 ∧ TapeAt H7 t (n + 12) ∧ H7 p = some (.lst (ws.map V.str)) ∧ ws.length = i ∧ (∀ x ∈ ws, Wd x) ∧ Frm hd tl sh st wy ws) ?_ (fun _ _ _ _ _ => trivial) ?_ ?_
      · exact ⟨none, none, none, [], rfl, x6, T6, upd_same, rfl, (fun x hx => by cases hx), fun j x hx => by simp at hx⟩
      · rintro i x σ H8 H7 hi ⟨y4, y11, y12, ws, rfl, x7, T7, e7, l7, b7, fr7⟩ ⟨rfl, rfl⟩
        rw [Int.toNat_natCast] at hi
        -- way
        refine ⟨.int sh, rfl, .int at_, rfl, _, _, rfl, rfl, .str stem, rfl, stem, rfl, sz _ (by omega), _, _, rfl, rfl, _, 3, rfl, rfl, (by decide : (0 : Int) < 3), .str tl, rfl, rfl, .inr ⟨_, rfl, _, _, rfl, rfl, .inr (b01 _), ?_⟩⟩
        dsimp only
        rw [hwy]
        -- sign
        have ik : ((0 : Int) + (i : Nat)) / 2 ≤ i := by omega
        have hkv := threeE hw0 hw1 (V.int (0 + (i : Nat))) (V.int ((0 + (i : Nat)) / 2)) (V.int (0 + (i : Nat)))
        obtain ⟨kk, hkk, hk0, hk1, hks⟩ : ∃ kk : Int, (if wy = 0 then V.int (0 + (i : Nat)) else if wy = 1 then V.int ((0 + (i : Nat)) / 2) else V.int (0 + (i : Nat))) = .int kk ∧ 0 ≤ kk ∧ kk ≤ 100 ∧ kk = selM wy i := by
          have : wy = 0 ∨ wy = 1 ∨ wy = 2 := by omega
          rcases this with rfl | rfl | rfl
          · exact ⟨0 + (i : Nat), rfl, by omega, by omega, by show _ = (i : Int); omega⟩
          · exact ⟨(0 + (i : Nat)) / 2, rfl, by omega, by omega, by show _ = ((i / 2 : Nat) : Int); omega⟩
          · exact ⟨0 + (i : Nat), rfl, by omega, by omega, by show _ = (i : Int); omega⟩
        rw [hkk] at hkv
        have hs26 := mod_lt (i := sh + st * kk) (j := 26) (by decide)
        obtain ⟨c, hc, lowc, codec⟩ := letter hs26.1 hs26.2
        refine ⟨.str abc, rfl, .int sh, rfl, .int st, rfl, .int (0 + (i : Nat)), rfl, .int (0 + (i : Nat)), rfl, _, 2, rfl, rfl, ⟨by decide, by decide⟩, .int (0 + (i : Nat)), rfl, by show 3 ≤ sizeLine; decide, fun l1 nl1 => ?_⟩
        have nl1t := nt T7 nl1
        have T8 := T7.upd (o := .lst [.int (0 + (i : Nat)), .int ((0 + (i : Nat)) / 2), .int (0 + (i : Nat))]) nl1t
        have sm8 : Same H7 (upd H7 l1 (.lst [.int (0 + (i : Nat)), .int ((0 + (i : Nat)) / 2), .int (0 + (i : Nat))])) := same_upd nl1
        refine ⟨.int wy, rfl, l1, _, wy, .int kk, rfl, rfl, SqL.of upd_same, hkv, st, kk, rfl, rfl, .inl ⟨by omega, by omega⟩, sh, _, rfl, rfl, _, 26, rfl, rfl, (by decide : (0 : Int) < 26), abc, _, c, rfl, rfl, (by decide +kernel), hc, ?_⟩
        -- append
        have lsg : (⟨#[c]⟩ : Str).length = 1 := rfl
        have lh1 : (hd ++ (⟨#[c]⟩ : Str)).length ≤ 8 := by rw [Str.length_append]; omega
        refine ⟨.ref p, rfl, .inl ⟨rfl, _, SqL.of (sm8 _ _ e7)⟩, .str hd, rfl, .str ⟨#[c]⟩, rfl, hd, _, rfl, rfl, sz _ (by omega), .str tl, rfl, .str tl, rfl, .int (0 + (i : Nat)), rfl, _, 2, rfl, rfl, (by decide : (0 : Int) < 2), tl, _, rfl, rfl, (by omega), ?_⟩
        have lr := rep_len tl ((0 + (i : Nat)) % 2)
        have wr : Low (if ((0 : Int) + (i : Nat)) % 2 = 0 then Str.empty else tl) := wt.rep _
        generalize htr : (if ((0 : Int) + (i : Nat)) % 2 = 0 then Str.empty else tl) = tr at lr wr ⊢
        have hkp := mod_lt (i := (0 : Int) + (i : Nat)) (j := (tl.length : Int) + 1) (by omega)
        refine ⟨.str tl, rfl, .int (0 + (i : Nat)), rfl, .str tl, rfl, tl, rfl, sz _ (by omega), _, 1, rfl, rfl, _, _, rfl, rfl, (by omega), _, rfl, tl, rfl, sz _ (by omega), by show 3 ≤ sizeLine; decide, fun l2 nl2 => ?_⟩
        have lc := cutS_length tl none (some ((0 + (i : Nat)) % ((tl.length : Int) + 1)))
        have wc : Low (cutS tl none (some ((0 + (i : Nat)) % ((tl.length : Int) + 1)))) := wt.cut _ _
        generalize hcc : cutS tl none (some ((0 + (i : Nat)) % ((tl.length : Int) + 1))) = tc at lc wc
        have nl2t := nt T8 nl2
        have htv := threeE hw0 hw1 (V.str tl) (.str tr) (.str tc)
        obtain ⟨tt, htt, htl, wtt, htw⟩ : ∃ tt : Str, (if wy = 0 then V.str tl else if wy = 1 then V.str tr else V.str tc) = .str tt ∧ tt.length ≤ 7 ∧ Low tt ∧ (wy = 1 → tt = tr) := by
          have : wy = 0 ∨ wy = 1 ∨ wy = 2 := by omega
          rcases this with rfl | rfl | rfl
          · exact ⟨tl, rfl, lt, wt, fun z => by cases z⟩
          · exact ⟨tr, rfl, by omega, wr, fun _ => rfl⟩
          · exact ⟨tc, rfl, by omega, wc, fun z => by cases z⟩
        rw [htt] at htv
        have sm9 := Same.trans sm8 (same_upd (o := .lst [.str tl, .str tr, .str tc]) nl2)
        refine ⟨.int wy, rfl, l2, [.str tl, .str tr, .str tc], wy, .str tt, rfl, rfl, SqL.of upd_same, htv, _, tt, rfl, rfl, sz _ (by omega), p, _, _, rfl, rfl, sm9 _ _ e7, ?_, ?_⟩
        · rw [List.length_map, l7]
          exact small1000 (by omega)
        refine ⟨some (.int (0 + (i : Nat))), some (.int wy), some (.str ⟨#[c]⟩), ws ++ [hd ++ ⟨#[c]⟩ ++ tt], rfl, ?_, ?_, ?_, ?_, ?_, ?_⟩
        · intro a o ha ho
          have hp : a ≠ p := by
            intro ea
            subst ea
            rw [hpH] at ho
            cases ho
          rw [upd_ne hp]
          exact sm9 _ _ (x7 _ _ ha ho)
        · exact (T7.same sm9).upd npt
        · rw [upd_same, List.map_append]
          rfl
        · rw [List.length_append, l7]
          rfl
        · intro x hx
          rcases List.mem_append.mp hx with hx | hx
          · exact b7 x hx
          · rw [List.mem_singleton.mp hx]
            exact ⟨by rw [Str.length_append]; omega, (wh.append lowc).append wtt⟩
        · intro j x hx
          by_cases hj : j < ws.length
          · rw [List.getElem?_append_left hj] at hx
            exact fr7 j x hx
          · rw [List.getElem?_append_right (by omega)] at hx
            have hj0 : j - ws.length = 0 := by
              cases q : j - ws.length with
              | zero => rfl
              | succ q' => rw [q] at hx; simp at hx
            rw [hj0] at hx
            have hx : some (hd ++ ⟨#[c]⟩ ++ tt) = some x := hx
            cases hx
            have hji : j = i := by omega
            subst hji
            refine ⟨c, tt, rfl, by rw [codec, hks], fun w1 => ?_⟩
            rw [htw w1, ← htr]
            by_cases z : j % 2 = 0
            · rw [if_pos z, if_pos (by omega)]
            · rw [if_neg z, if_neg (by omega)]
      · rintro σ H7 ⟨y4, y11, y12, ws, rfl, x7, T7, e7, l7, b7, fr7⟩
        rw [Int.toNat_natCast] at l7
        exact ⟨.ref p, rfl, q _ _ ws x7 T7 hpH e7 l7 b7 fun hm26 => fr7.nodup hst3 (by omega) hwe⟩
end
end Sg

namespace Sg
open PySem PySem.Spec PyProof.Rows L2
abbrev sSame : Stmt := topS 24
abbrev nSame : List Str := ["_law_found", "_law_due", "_law_one", "_law_other"]
theorem scSame : FnScope nSame ["_law_found", "_law_due"] (defScope sSame) := ⟨rfl, rfl, rfl, by decide +kernel, rfl, by decide +kernel, by decide +kernel⟩
theorem walk_zipT {K : PySem.W.Frag} {a b : Addr} {xs ys : List V} {n : Nat} (hn : n = min xs.length ys.length) : Walk (RZ.ItzT K a b) n (fun H => SqT K H a xs ∧ SqT K H b ys) (YPair (fun i => xs[i]?) (fun i => ys[i]?)) := by
  subst hn
  refine ⟨fun i _ hi q => ?_, fun _ q => ⟨xs, ys, q.1, q.2, by omega⟩, fun i H v H' _ q y => ?_⟩
  · have h1 : i < xs.length := by omega
    have h2 : i < ys.length := by omega
    exact ⟨xs, ys, xs[i], ys[i], q.1, q.2, by simp [h1], by simp [h2]⟩
  · obtain ⟨T, x, z, h1, h2, h3, h4, h5⟩ := y
    exact ⟨T, x, z, h1, h2, h3, h4 xs q.1, h5 ys q.2⟩
def tyD : PyData → String
  | .none => "NoneType"
  | .bool _ => "bool"
  | .int _ => "int"
  | .str _ => "str"
  | .list _ => "list"
  | .tuple _ => "tuple"
  | .dict _ => "dict"
theorem Rp.ty {K : PySem.W.Frag} {H : Hp} {v : V} {d : PyData} (h : Rp H v d) : TyX K H v (.type (tyD d)) := by
  cases h with
  | non => exact .base .non
  | bl b => exact .base (.bl b)
  | int i => exact .base (.int i)
  | str x => exact .base (.str x)
  | lst h _ => exact .base (.lst h)
  | tup h _ => exact .base (.tup h)
def Fit : Nat → PyData → Prop
  | n + 1, .list ds => ds.length ≤ 1000 ∧ ∀ d ∈ ds, Fit n d
  | n + 1, .tuple ds => ds.length ≤ 1000 ∧ ∀ d ∈ ds, Fit n d
  | 0, .list _ => False
  | 0, .tuple _ => False
  | _, .dict _ => False
  | _, _ => True
def spSame : Nat → Sp
  | 0 => fun _ _ _ _ => False
  | n + 1 => fun vs H Q _ => ∃ (u v : V) (d : PyData), vs = [u, v] ∧ Rp H u d ∧ Rp H v d ∧ Fit n d ∧ ∀ H', Same H H' → Q (.bl true) H'
theorem kitA {K : PySem.W.Frag} {t a b : String} {x y : Bool} (hx : kitB t a = some x) (hy : kitB t b = some y) : PySem.W.kitAny K (.type t) [.type a, .type b] = some (x || y) := by
  refine kitAny_cons (b := x) (kit_ty hx) (fun e => kitAny_cons (b := y) (kit_ty hy) (fun e2 => ?_) (fun e2 => ?_)) (fun e => ?_)
  · rw [e, e2]; exact kitAny_nil
  · rw [e2, Bool.or_true]
  · rw [e, Bool.true_or]
section
variable {P : Program} {w : World} {K : PySem.W.Frag} {mg : Str → Option Value} {base : Heap}
theorem all_true (n : Nat) : (List.replicate n true).all id = true := by
  rw [List.all_eq_true]
  intro x hx
  rw [List.eq_of_mem_replicate hx]
  rfl
theorem ok_same {f : Addr} {fd : FuncData} (F : Fun K "_law_same" "_law_same" sSame f fd) (b : Binds K fd ["_law_found", "_law_due"] []) (g : mg "_law_same" = some (.ref f))
    (mis : mg "isinstance" = none) (mls : mg "list" = none) (mt : mg "tuple" = none) (ml : mg "len" = none) (ma : mg "all" = none) (mz : mg "zip" = none) (mst : mg "str" = none) (mb : mg "bool" = none) (mi : mg "int" = none) :
    ∀ n, FnOk P w K mg base CX0 n f fd ["_law_found", "_law_due"] (spSame n) := by
  intro n
  induction n with
  | zero => exact ⟨fun _ _ _ _ h => h.elim, fun _ _ _ _ _ _ _ _ _ _ _ _ _ h => h.elim⟩
  | succ n ih =>
    refine F.ok scSame (fun vs H Q E h => ?_) (fun cdv A outer s H vs Q E hr h => ?_)
    · obtain ⟨u, v, d, rfl, _⟩ := h
      rfl
    · obtain ⟨u, v, d, rfl, hu, hv, hfit, q⟩ := h
      refine ⟨_, pss_cons (ps_if (pt_val (pe_callB call_isiT (by rfl) mis (by decide +kernel) (pa_cons (pv 1) (pa_cons (pe_tup (pa_cons (pe_bltn (v := .ty "list") (by rfl) mls (by decide +kernel) rfl) (pa_cons (pe_bltn (v := .ty "tuple") (by rfl) mt (by decide +kernel) rfl) pa_nil))) pa_nil))))
          (pss_cons (ps_if (PW.pt (pw_or (pt_cmpR op_ne (pe_callB call_isi (by rfl) mis (by decide +kernel) (pa_cons (pv 0) (pa_cons (pe_bltn (v := .ty "list") (by rfl) mls (by decide +kernel) rfl) pa_nil))) (pe_callB call_isi (by rfl) mis (by decide +kernel) (pa_cons (pv 1) (pa_cons (pe_bltn (v := .ty "list") (by rfl) mls (by decide +kernel) rfl) pa_nil))) (nomark _))
              (pw_or1 (pt_cmpR op_ne (pe_callB call_isi (by rfl) mis (by decide +kernel) (pa_cons (pv 0) (pa_cons (pe_bltn (v := .ty "tuple") (by rfl) mt (by decide +kernel) rfl) pa_nil))) (pe_callB call_isi (by rfl) mis (by decide +kernel) (pa_cons (pv 1) (pa_cons (pe_bltn (v := .ty "tuple") (by rfl) mt (by decide +kernel) rfl) pa_nil))) (nomark _)))))
            (pss_one (ps_ret pe_bl)) pss_nil)
          (pss_one (ps_ret (pe_and (pe_cmpR op_eq (pe_callB call_len_seq (by rfl) ml PySem.boot_len (pa_cons (pv 0) pa_nil)) (pe_callB call_len_seq (by rfl) ml PySem.boot_len (pa_cons (pv 1) pa_nil)) (nomark _))
            (pe_one (pe_callB (cr_all rfl) (by rfl) ma (by decide +kernel) (pa_cons (pe_lc (own := [("_law_one", 2), ("_law_other", 3)]) (g := gTup K 2 (gCons (gName 2) (gCons (gName 3) gNil))) (tt := tYes) (te := tCall (spSame n) [] E0 (tCons (tVar 2) (tCons (tVar 3) tNil))) rfl scSame.nd
              (RZ.pi_zipA (by rfl) mz (pa_cons (pv 0) (pa_cons (pv 1) pa_nil))) (blkOk_by (N := nSame) (sc := defScope sSame) (by decide +kernel))
              (fun _ _ _ _ _ => pg_tup rfl (pgs_cons (pg_name (i := 2) scSame.nd rfl (.inl rfl)) (pgs_cons (pg_name (i := 3) scSame.nd rfl (.inl rfl)) pgs_nil))) (fun _ _ _ _ _ => pts_nil)
              (fun _ _ _ _ _ => pe_call ih hr (by rfl) g F.kp b .nil pass0 (pa_cons (pv 2) (pa_cons (pv 3) pa_nil)))) pa_nil))))))) pss_nil)
        (pss_cons (ps_if (PW.pt (pw_or (pt_cmpR op_isN (pv 1) pe_non (nomark _)) (pw_or1 (pt_val (pe_callB call_isiT (by rfl) mis (by decide +kernel) (pa_cons (pv 1) (pa_cons (pe_tup (pa_cons (pe_bltn (v := .ty "str") (by rfl) mst (by decide +kernel) rfl) (pa_cons (pe_bltn (v := .ty "bool") (by rfl) mb (by decide +kernel) rfl) pa_nil))) pa_nil)))))))
          (pss_one (ps_ret (pe_and (pe_cmpR op_eq (pe_callB call_isi (by rfl) mis (by decide +kernel) (pa_cons (pv 0) (pa_cons (pe_bltn (v := .ty "bool") (by rfl) mb (by decide +kernel) rfl) pa_nil))) (pe_callB call_isi (by rfl) mis (by decide +kernel) (pa_cons (pv 1) (pa_cons (pe_bltn (v := .ty "bool") (by rfl) mb (by decide +kernel) rfl) pa_nil))) (nomark _)) (pe_one (pe_cmpR op_eq (pv 0) (pv 1) (nomark _)))))) pss_nil)
        (pss_one (ps_ret (pe_and (pe_callB call_isi (by rfl) mis (by decide +kernel) (pa_cons (pv 0) (pa_cons (pe_bltn (v := .ty "int") (by rfl) mi (by decide +kernel) rfl) pa_nil))) (pe_and (pe_not (pe_callB call_isi (by rfl) mis (by decide +kernel) (pa_cons (pv 0) (pa_cons (pe_bltn (v := .ty "bool") (by rfl) mb (by decide +kernel) rfl) pa_nil)))) (pe_one (pe_cmpR op_eq (pv 0) (pv 1) (nomark _)))))))), ?_⟩
      refine ⟨v, rfl, by show 2 ≤ sizeLine; decide, fun T nT => ?_⟩
      have s1 : Same H (upd H T (.tup [.ty "list", .ty "tuple"])) := same_upd nT
      have hu1 := hu.same s1
      have hv1 := hv.same s1
      have htT := (upd_same : upd H T (.tup [.ty "list", .ty "tuple"]) T = some (.tup [.ty "list", .ty "tuple"]))
      generalize upd H T (.tup [.ty "list", .ty "tuple"]) = H1 at *
      cases hu1 with
      | lst ha hs =>
        rename_i a xs ds
        cases hv1 with
        | lst hb ht =>
          rename_i b' ys
          obtain ⟨n', rfl⟩ : ∃ n', n = n' + 1 := by
            cases n with
            | zero => exact hfit.elim
            | succ n' => exact ⟨n', rfl⟩
          have hl1 := hs.length
          have hl2 := ht.length
          have hf1 : ds.length ≤ 1000 := hfit.1
          refine ⟨_, T, _, .type "list", _, _, rfl, htT, .cons (.ty _) (.cons (.ty _) .nil), .base (.lst hb), kitA (x := true) (y := false) (by decide +kernel) (by decide +kernel), _, rfl, ?_⟩
          refine ⟨.ref a, rfl, _, _, .type "list", _, true, rfl, .ty _, .base (.lst ha), kit_ty (by decide +kernel), .ref b', rfl, _, _, .type "list", _, true, rfl, .ty _, .base (.lst hb), kit_ty (by decide +kernel), rfl, _, rfl, iteNS rfl ?_⟩
          refine ⟨.ref a, rfl, _, _, .type "list", _, false, rfl, .ty _, .base (.lst ha), kit_ty (by decide +kernel), .ref b', rfl, _, _, .type "list", _, false, rfl, .ty _, .base (.lst hb), kit_ty (by decide +kernel), rfl, _, rfl, iteNS rfl ?_⟩
          refine ⟨.ref a, rfl, a, xs, rfl, .inl (SqL.of ha), .ref b', rfl, b', ys, rfl, .inl (SqL.of hb), rfl, _, rfl, ?_⟩
          rw [show decide (V.int (xs.length : Int) = V.int (ys.length : Int)) = true from decide_eq_true (by rw [hl1, hl2])]
          refine ⟨.ref a, rfl, .ref b', rfl, a, b', xs, ys, rfl, .inl ⟨SqL.of ha, SqL.of hb, fun D nD => ?_⟩⟩
          refine lc_it (walk_zip (xs := xs) (ys := ys) rfl) (fun i H3 => Same H1 H3 ∧ H3 D = some (.lst ((List.replicate i true).map V.bl))) ⟨same_upd nD, upd_same⟩ (fun i H3 _ h3 => ⟨SqL.of (h3.1 _ _ ha), SqL.of (h3.1 _ _ hb)⟩) ?_ ?_
          · rintro i x H3 H4 hi ⟨s3, d3⟩ ⟨T2, x1, x2, rfl, nT2, rfl, f1, f2⟩
            obtain ⟨d1, hd1, r1⟩ := hs.get f1
            obtain ⟨d2, hd2, r2⟩ := ht.get f2
            rw [hd1] at hd2
            cases hd2
            have sT : Same H3 (upd H3 T2 (.tup [x1, x2])) := same_upd nT2
            refine ⟨T2, _, rfl, SqT.of upd_same, rfl, _, _, rfl, _, _, rfl, rfl, rfl, x1, rfl, x2, rfl, x1, x2, d1, rfl, r1.same (Same.trans s3 sT), r2.same (Same.trans s3 sT), hfit.2 d1 (List.mem_of_getElem? hd1), fun H5 s5 => ?_⟩
            have d5 := s5 _ _ (sT _ _ d3)
            refine ⟨_, d5, ?_, fun c o e => ?_, ?_⟩
            · rw [List.length_map, List.length_replicate]
              exact small1000 (by omega)
            · rw [upd_ne (fun z => by subst z; rw [nD] at e; cases e)]
              exact s5 _ _ (sT _ _ (s3 _ _ e))
            · rw [upd_same, List.replicate_succ', List.map_append]
              rfl
          · rintro H3 ⟨s3, d3⟩
            refine ⟨D, _, rfl, SqL.of d3, ?_⟩
            rw [all_true]
            exact q _ (Same.trans s1 s3)
      | tup ha hs =>
        rename_i a xs ds
        cases hv1 with
        | tup hb ht =>
          rename_i b' ys
          obtain ⟨n', rfl⟩ : ∃ n', n = n' + 1 := by
            cases n with
            | zero => exact hfit.elim
            | succ n' => exact ⟨n', rfl⟩
          have hl1 := hs.length
          have hl2 := ht.length
          have hf1 : ds.length ≤ 1000 := hfit.1
          refine ⟨_, T, _, .type "tuple", _, _, rfl, htT, .cons (.ty _) (.cons (.ty _) .nil), .base (.tup hb), kitA (x := false) (y := true) (by decide +kernel) (by decide +kernel), _, rfl, ?_⟩
          refine ⟨.ref a, rfl, _, _, .type "tuple", _, false, rfl, .ty _, .base (.tup ha), kit_ty (by decide +kernel), .ref b', rfl, _, _, .type "tuple", _, false, rfl, .ty _, .base (.tup hb), kit_ty (by decide +kernel), rfl, _, rfl, iteNS rfl ?_⟩
          refine ⟨.ref a, rfl, _, _, .type "tuple", _, true, rfl, .ty _, .base (.tup ha), kit_ty (by decide +kernel), .ref b', rfl, _, _, .type "tuple", _, true, rfl, .ty _, .base (.tup hb), kit_ty (by decide +kernel), rfl, _, rfl, iteNS rfl ?_⟩
          refine ⟨.ref a, rfl, a, xs, rfl, .inr (SqT.of ha), .ref b', rfl, b', ys, rfl, .inr (SqT.of hb), rfl, _, rfl, ?_⟩
          rw [show decide (V.int (xs.length : Int) = V.int (ys.length : Int)) = true from decide_eq_true (by rw [hl1, hl2])]
          refine ⟨.ref a, rfl, .ref b', rfl, a, b', xs, ys, rfl, .inr ⟨SqT.of ha, SqT.of hb, fun D nD => ?_⟩⟩
          refine lc_it (walk_zipT (xs := xs) (ys := ys) rfl) (fun i H3 => Same H1 H3 ∧ H3 D = some (.lst ((List.replicate i true).map V.bl))) ⟨same_upd nD, upd_same⟩ (fun i H3 _ h3 => ⟨SqT.of (h3.1 _ _ ha), SqT.of (h3.1 _ _ hb)⟩) ?_ ?_
          · rintro i x H3 H4 hi ⟨s3, d3⟩ ⟨T2, x1, x2, rfl, nT2, rfl, f1, f2⟩
            obtain ⟨d1, hd1, r1⟩ := hs.get f1
            obtain ⟨d2, hd2, r2⟩ := ht.get f2
            rw [hd1] at hd2
            cases hd2
            have sT : Same H3 (upd H3 T2 (.tup [x1, x2])) := same_upd nT2
            refine ⟨T2, _, rfl, SqT.of upd_same, rfl, _, _, rfl, _, _, rfl, rfl, rfl, x1, rfl, x2, rfl, x1, x2, d1, rfl, r1.same (Same.trans s3 sT), r2.same (Same.trans s3 sT), hfit.2 d1 (List.mem_of_getElem? hd1), fun H5 s5 => ?_⟩
            have d5 := s5 _ _ (sT _ _ d3)
            refine ⟨_, d5, ?_, fun c o e => ?_, ?_⟩
            · rw [List.length_map, List.length_replicate]
              exact small1000 (by omega)
            · rw [upd_ne (fun z => by subst z; rw [nD] at e; cases e)]
              exact s5 _ _ (sT _ _ (s3 _ _ e))
            · rw [upd_same, List.replicate_succ', List.map_append]
              rfl
          · rintro H3 ⟨s3, d3⟩
            refine ⟨D, _, rfl, SqL.of d3, ?_⟩
            rw [all_true]
            exact q _ (Same.trans s1 s3)
      | non =>
        cases hv1
        refine ⟨_, T, _, .type "NoneType", _, _, rfl, htT, .cons (.ty _) (.cons (.ty _) .nil), .base .non, kitA (x := false) (y := false) (by decide +kernel) (by decide +kernel), _, rfl, ?_⟩
        refine ⟨_, rfl, rfl, _, rfl, ?_⟩
        refine ⟨_, rfl, _, _, .type "NoneType", _, false, rfl, .ty _, .base .non, kit_ty (by decide +kernel), _, rfl, _, _, .type "NoneType", _, false, rfl, .ty _, .base .non, kit_ty (by decide +kernel), rfl, _, rfl, ?_⟩
        refine ⟨_, rfl, _, rfl, rfl, ?_⟩
        exact q _ s1
      | bl x =>
        cases hv1
        refine ⟨_, T, _, .type "bool", _, _, rfl, htT, .cons (.ty _) (.cons (.ty _) .nil), .base (.bl _), kitA (x := false) (y := false) (by decide +kernel) (by decide +kernel), _, rfl, ?_⟩
        refine ⟨_, rfl, rfl, _, rfl, ?_⟩
        refine ⟨_, rfl, by show 2 ≤ sizeLine; decide, fun T2 nT2 => ?_⟩
        refine ⟨_, T2, _, .type "bool", _, _, rfl, upd_same, .cons (.ty _) (.cons (.ty _) .nil), .base (.bl _), kitA (x := false) (y := true) (by decide +kernel) (by decide +kernel), _, rfl, ?_⟩
        refine ⟨_, rfl, _, _, .type "bool", _, true, rfl, .ty _, .base (.bl _), kit_ty (by decide +kernel), _, rfl, _, _, .type "bool", _, true, rfl, .ty _, .base (.bl _), kit_ty (by decide +kernel), rfl, _, rfl, ?_⟩
        refine ⟨_, rfl, _, rfl, rfl, ?_⟩
        rw [decide_eq_true rfl]
        exact q _ (Same.trans s1 (same_upd nT2))
      | str x =>
        cases hv1
        refine ⟨_, T, _, .type "str", _, _, rfl, htT, .cons (.ty _) (.cons (.ty _) .nil), .base (.str _), kitA (x := false) (y := false) (by decide +kernel) (by decide +kernel), _, rfl, ?_⟩
        refine ⟨_, rfl, rfl, _, rfl, ?_⟩
        refine ⟨_, rfl, by show 2 ≤ sizeLine; decide, fun T2 nT2 => ?_⟩
        refine ⟨_, T2, _, .type "str", _, _, rfl, upd_same, .cons (.ty _) (.cons (.ty _) .nil), .base (.str _), kitA (x := true) (y := false) (by decide +kernel) (by decide +kernel), _, rfl, ?_⟩
        refine ⟨_, rfl, _, _, .type "str", _, false, rfl, .ty _, .base (.str _), kit_ty (by decide +kernel), _, rfl, _, _, .type "str", _, false, rfl, .ty _, .base (.str _), kit_ty (by decide +kernel), rfl, _, rfl, ?_⟩
        refine ⟨_, rfl, _, rfl, rfl, ?_⟩
        rw [decide_eq_true rfl]
        exact q _ (Same.trans s1 (same_upd nT2))
      | int x =>
        cases hv1
        refine ⟨_, T, _, .type "int", _, _, rfl, htT, .cons (.ty _) (.cons (.ty _) .nil), .base (.int _), kitA (x := false) (y := false) (by decide +kernel) (by decide +kernel), _, rfl, ?_⟩
        refine ⟨_, rfl, rfl, _, rfl, ?_⟩
        refine ⟨_, rfl, by show 2 ≤ sizeLine; decide, fun T2 nT2 => ?_⟩
        refine ⟨_, T2, _, .type "int", _, _, rfl, upd_same, .cons (.ty _) (.cons (.ty _) .nil), .base (.int _), kitA (x := false) (y := false) (by decide +kernel) (by decide +kernel), _, rfl, ?_⟩
        refine ⟨_, rfl, _, _, .type "int", _, true, rfl, .ty _, .base (.int _), kit_ty (by decide +kernel), _, rfl, ?_⟩
        refine ⟨_, rfl, _, _, .type "int", _, false, rfl, .ty _, .base (.int _), kit_ty (by decide +kernel), _, rfl, _, rfl, ?_⟩
        refine ⟨_, rfl, _, rfl, rfl, ?_⟩
        rw [decide_eq_true rfl]
        exact q _ (Same.trans s1 (same_upd nT2))
end
end Sg

namespace Sg
open PySem PySem.Spec PyProof.Rows L2
/-! ### texts that rise -/
def ltS (a b : Str) : Prop := a.cps.toList < b.cps.toList
instance (a b : Str) : Decidable (ltS a b) := inferInstanceAs (Decidable (a.cps.toList < b.cps.toList))
theorem ltS_trans {a b c : Str} (h1 : ltS a b) (h2 : ltS b c) : ltS a c := List.lt_trans h1 h2
theorem ltS_irrefl (a : Str) : ¬ ltS a a := List.lt_irrefl _
theorem str_ext {a b : Str} (h : a.cps.toList = b.cps.toList) : a = b := by
  cases a
  cases b
  have := Array.toList_inj.mp h
  simp at this
  rw [this]
theorem ltS_or {a b : Str} (h : ¬ ltS b a) (hne : a ≠ b) : ltS a b := by
  have hle : a.cps.toList ≤ b.cps.toList := List.not_lt.mp h
  rcases List.le_iff_lt_or_eq.mp hle with z | z
  · exact z
  · exact absurd (str_ext z) hne
theorem rising_pairwise : ∀ (r : List Str) (p : Str), risingS p r = true → (p :: r).Nodup → (p :: r).Pairwise ltS
  | [], p, _, _ => List.pairwise_singleton _ _
  | x :: r, p, h, hn => by
    have h : (!ltCps x.cps.toList p.cps.toList && risingS x r) = true := h
    rw [Bool.and_eq_true] at h
    have hn2 := (List.nodup_cons.mp hn)
    have ih := rising_pairwise r x h.2 hn2.2
    have hpx : ltS p x := by
      refine ltS_or (fun z => ?_) (fun e => hn2.1 (by rw [e]; exact List.mem_cons_self ..))
      have h1 := h.1
      rw [ltCps_eq, decide_eq_true (show x.cps.toList < p.cps.toList from z)] at h1
      cases h1
    refine List.Pairwise.cons (fun y hy => ?_) ih
    rcases List.mem_cons.mp hy with z | z
    · rw [z]
      exact hpx
    · exact ltS_trans hpx ((List.pairwise_cons.mp ih).1 y z)
theorem sorted_pairwise {l : List Str} (h : sortedS l = true) (hn : l.Nodup) : l.Pairwise ltS := by
  cases l with
  | nil => exact .nil
  | cons p r => exact rising_pairwise r p h hn
theorem pairwise_nodup {l : List Str} (h : l.Pairwise ltS) : l.Nodup := by
  rw [List.nodup_iff_pairwise_ne]
  refine h.imp ?_
  intro a b hab e
  subst e
  exact ltS_irrefl _ hab
/-- a list without twins, all of it among others, is no longer than these -/
theorem len_le {α : Type} [DecidableEq α] : ∀ {xs ys : List α}, xs.Nodup → (∀ x ∈ xs, x ∈ ys) → xs.length ≤ ys.length
  | [], _, _, _ => Nat.zero_le _
  | x :: xs, ys, hn, hs => by
    have hx := hs x (List.mem_cons_self ..)
    have hn2 := List.nodup_cons.mp hn
    have ih := len_le (xs := xs) (ys := ys.erase x) hn2.2 fun y hy => by
      refine (List.mem_erase_of_ne ?_).mpr (hs y (List.mem_cons_of_mem _ hy))
      intro e
      rw [e] at hy
      exact hn2.1 hy
    rw [List.length_erase_of_mem hx] at ih
    have : 0 < ys.length := List.length_pos_of_mem hx
    rw [List.length_cons]
    omega
end Sg

namespace Sg
open PySem PySem.Spec PyProof.Rows L2
abbrev sPart : Stmt := topS 23
abbrev nPart : List Str := ["_law_tape_here", "_law_some", "_law_many", "_law_left", "_law_k"]
theorem scPart : FnScope nPart ["_law_tape_here", "_law_some", "_law_many"] (defScope sPart) := ⟨rfl, rfl, rfl, by decide +kernel, rfl, by decide +kernel, by decide +kernel⟩
abbrev sFacets : Stmt := topS 25
abbrev nFacets : List Str := ["_law_tape_here", "_law_many", "_law_most", "_law_found", "_law_name", "_law_words"]
theorem scFacets : FnScope nFacets ["_law_tape_here", "_law_many", "_law_most"] (defScope sFacets) := ⟨rfl, rfl, rfl, by decide +kernel, rfl, by decide +kernel, by decide +kernel⟩
theorem eraseIdx_map' {α β : Type} (f : α → β) : ∀ (xs : List α) (j : Nat), (xs.map f).eraseIdx j = (xs.eraseIdx j).map f
  | [], _ => rfl
  | _ :: _, 0 => rfl
  | x :: xs, j + 1 => by
    show f x :: (xs.map f).eraseIdx j = f x :: (xs.eraseIdx j).map f
    rw [eraseIdx_map' f xs j]
theorem erase_perm {α : Type} : ∀ (zs : List α) (j : Nat) (h : j < zs.length), (zs[j] :: zs.eraseIdx j).Perm zs
  | x :: zs, 0, _ => .refl _
  | x :: zs, j + 1, h => (List.Perm.swap x (zs[j]'(Nat.lt_of_succ_lt_succ h)) (zs.eraseIdx j)).trans ((erase_perm zs j (Nat.lt_of_succ_lt_succ h)).cons x)
theorem Ex.upd_free {t p : Addr} {H H' : Hp} {o : HO} (s : Ex t H H') (h : H p = none) : Ex t H (L2.upd H' p o) := fun c u n e => by
  rw [upd_ne (fun q => by subst q; rw [h] at e; cases e)]
  exact s c u n e
abbrev rLen (K : PySem.W.Frag) : List V → Hp → VK → Prop := fun xs H Q => ∃ p ys, xs = [.ref p] ∧ (SqL K H p ys ∨ SqT K H p ys) ∧ Q (.int ys.length) H
abbrev rTupOf (K : PySem.W.Frag) : List V → Hp → VK → Prop := fun xs H Q => ∃ p ys, xs = [.ref p] ∧ ((SqL K H p ys ∧ ∀ l, H l = none → Q (.ref l) (upd H l (.tup ys))) ∨ (SqT K H p ys ∧ Q (.ref p) H))
section
variable {P : Program} {w : World} {K : PySem.W.Frag} {mg : Str → Option Value} {base : Heap}
def spPart : Sp := fun vs H Q _ => ∃ (α : Type) (d : α → PyData) (l : List α) (t a : Addr) (xs : List V) (m n : Nat), vs = [.ref t, .ref a, .int (m : Int)] ∧ (H a = some (.tup xs) ∨ H a = some (.lst xs)) ∧ RpAll H xs (l.map d) ∧ (∀ x, imm (d x) = true) ∧ m ≤ l.length ∧ l.length ≤ 300 ∧ TapeAt H t n ∧ n ≤ 900000 ∧
  ∀ (p : Addr) (H' : Hp) (us : List V) (ys rest : List α), Ex t H H' → TapeAt H' t (n + m) → H p = none → H' p = some (.lst us) → RpAll H' us (ys.map d) → ys.length = m → (ys ++ rest).Perm l → Q (.ref p) H'
theorem ok_part {f fD : Addr} {fd fdD : FuncData} {k : Nat} (F : Fun K "_law_part" "_law_part" sPart f fd) (FD : Fun K "_law_draw" "_law_draw" sDraw fD fdD) (bD : Binds K fdD ["_law_tape_here", "_law_many"] []) (gD : mg "_law_draw" = some (.ref fD))
    (ml : mg "len" = none) (mr : mg "range" = none) (mls : mg "list" = none) : FnOk P w K mg base CX0 (k + 2) f fd ["_law_tape_here", "_law_some", "_law_many"] spPart := by
  have GD : FnOk P w K mg base CX0 (k + 1) fD fdD ["_law_tape_here", "_law_many"] spDraw := ok_draw FD
  refine F.ok scPart (fun vs H Q E h => ?_) (fun cdv A outer s H vs Q E hr h => ?_)
  · obtain ⟨α, d, l, t, a, xs, m, n, rfl, _⟩ := h
    rfl
  · obtain ⟨α, d, l, t, a, xs, m, n, rfl, hv, hxs, himm, hm, hw, hT, hn, q⟩ := h
    refine ⟨_, pss_cons (ps_set (i := 3) scPart.nd rfl (.inr rfl) (pe_callTy call_list_of (by rfl) mls (by decide +kernel) (pa_cons (pv 1) pa_nil)))
      (pss_one (ps_ret (pe_lc (own := [("_law_k", 4)]) (g := gName 4) (tt := tYes) (te := tBM K "list" rPopAt (tVar 3) (tCons (tCall spDraw [] E0 (tCons (tVar 0) (tCons (tCB (rLen K) (tCons (tVar 3) tNil)) tNil))) tNil)) rfl scPart.nd (pi_range1 rfl mr (pa_cons (pv 2) pa_nil)) (blkOk_by (N := nPart) (sc := defScope sPart) (by decide +kernel))
          (fun _ _ _ _ _ => pg_name (i := 4) scPart.nd rfl (.inl rfl)) (fun _ _ _ _ _ => pts_nil) (fun _ _ _ _ _ => pe_bm PySem.F.plainAttrs_list PySem.F.slot_list_pop PySem.F.type_list_pop mt_popAt (pv 3) (pa_cons (pe_call GD hr (by rfl) gD FD.kp bD .nil pass0 (pa_cons (pv 0) (pa_cons (pe_callB call_len_seq (by rfl) ml PySem.boot_len (pa_cons (pv 3) pa_nil)) pa_nil))) pa_nil))))), ?_⟩
    refine ⟨.ref a, rfl, a, xs, rfl, hv.elim (fun e => .inr (SqT.of e)) (fun e => .inl (SqL.of e)), fun lf nl => ?_⟩
    have nlt := hT.ne_none nl
    refine ⟨.int (m : Int), rfl, (m : Int), rfl, by omega, by omega, fun D nD => ?_⟩
    have sm1 : Same H (upd H lf (.lst xs)) := same_upd nl
    have nDl : D ≠ lf := fun e => by
      subst e
      rw [upd_same] at nD
      cases nD
    have nDH : H D = none := sm1.free nD
    have nDt := hT.ne_none nDH
    have sm2 : Same H (upd (upd H lf (.lst xs)) D (.lst [])) := Same.trans sm1 (same_upd nD)
    have hxl := hxs.length
    rw [List.length_map] at hxl
    refine lc_it (walk_range (lo := 0) (n := (m : Int).toNat)) (fun i H3 => ∃ (us rs : List V) (ys zs : List α), Ex t H H3 ∧ TapeAt H3 t (n + i) ∧ H3 lf = some (.lst rs) ∧ RpAll H3 rs (zs.map d) ∧ zs.length + i = l.length ∧ H3 D = some (.lst us) ∧ RpAll H3 us (ys.map d) ∧ ys.length = i ∧ (ys ++ zs).Perm l) ?_ (fun _ _ _ _ => trivial) ?_ ?_
    · refine ⟨[], xs, [], l, Same.ex sm2, (hT.same sm2).mono (by omega), ?_, hxs.same sm2, rfl, upd_same, .nil, rfl, .refl _⟩
      rw [upd_ne nDl.symm, upd_same]
    · rintro i x H4 H3 hi ⟨us, rs, ys, zs, x3, T3, e3, r3, l3, d3, rd, ld, pm⟩ ⟨rfl, rfl⟩
      rw [Int.toNat_natCast] at hi
      have hrl := r3.length
      rw [List.length_map] at hrl
      refine ⟨rfl, .ref lf, rfl, .inl ⟨rfl, _, SqL.of e3⟩, .ref t, rfl, .ref lf, rfl, lf, _, rfl, .inl (SqL.of e3), t, _, n + i, rfl, by omega, by omega, T3, by omega, fun r H5 x5 T5 h50 h51 => ?_⟩
      have e5 := x5 lf _ nlt e3
      have d5 := x5 D _ nDt d3
      obtain ⟨j, rfl⟩ : ∃ j : Nat, r = j := ⟨r.toNat, by omega⟩
      have hj : j < rs.length := by omega
      have hjz : j < zs.length := by omega
      have kT := T3.keepT x5
      have r5 := r3.keep kT (immAll_map himm zs)
      obtain ⟨dd, hdd, hvj⟩ := r5.get (List.getElem?_eq_getElem hj)
      rw [List.getElem?_map, List.getElem?_eq_getElem hjz] at hdd
      cases hdd
      have k1 : KeepT H5 (upd (upd H5 lf (.lst (rs.eraseIdx j))) D (.lst (us ++ [rs[j]]))) := (keepT_lst e5).trans (keepT_lst (xs := us) (by rw [upd_ne nDl]; exact d5))
      refine ⟨lf, rs, (j : Int), j, rs[j], rfl, rfl, e5, by omega, by omega, ?_, List.getElem?_eq_getElem hj, us, ?_, ?_, us ++ [rs[j]], rs.eraseIdx j, ys ++ [zs[j]], zs.eraseIdx j, ?_, ?_, ?_, ?_, ?_, upd_same, ?_, ?_, ?_⟩
      · unfold seqIndex?
        simp
        omega
      · rw [upd_ne nDl]
        exact d5
      · rw [rd.length, List.length_map, ld]
        exact small1000 (by omega)
      · exact ((x3.trans x5).upd_free nl).upd_free nDH
      · exact ((T5.upd nlt).upd nDt).mono (by omega)
      · rw [upd_ne nDl.symm, upd_same]
      · have : RpAll H5 (rs.eraseIdx j) ((zs.eraseIdx j).map d) := by
          rw [← eraseIdx_map', List.eraseIdx_eq_take_drop_succ, List.eraseIdx_eq_take_drop_succ]
          exact (r5.take j).append (r5.drop (j + 1))
        exact this.keep k1 (immAll_map himm _)
      · rw [List.length_eraseIdx_of_lt hjz]
        omega
      · rw [List.map_append]
        exact ((rd.keep kT (immAll_map himm ys)).keep k1 (immAll_map himm ys)).append (.cons (hvj.keep k1 (himm _)) .nil)
      · rw [List.length_append, ld]
        rfl
      · refine List.Perm.trans ?_ pm
        rw [List.append_assoc]
        exact (erase_perm zs j hjz).append_left ys
    · rintro H3 ⟨us, rs, ys, zs, x3, T3, e3, r3, l3, d3, rd, ld, pm⟩
      rw [Int.toNat_natCast] at T3 ld
      exact q _ _ us ys zs x3 T3 nDH d3 rd ld pm
/-- facets as they are drawn -/
def FOk (fs : List (Str × List Str)) : Prop := ∀ p ∈ fs, Wd p.1 ∧ 2 ≤ p.2.length ∧ p.2.length ≤ 4 ∧ (∀ x ∈ p.2, Wd x) ∧ p.2.Pairwise ltS
def spFacets : Sp := fun vs H Q _ => ∃ (t : Addr) (m n : Nat) (s : Int), vs = [.ref t, .int (m : Int), .int s] ∧ m ≤ 4 ∧ 2 ≤ s ∧ s ≤ 4 ∧ TapeAt H t n ∧ n ≤ 800000 ∧
  ∀ (v : V) (H' : Hp) (fs : List (Str × List Str)), Ex t H H' → TapeAt H' t (n + 100) → Rp H' v (dF fs) → fs.length = m → FOk fs → (fs.map (·.1)).Pairwise ltS → Q v H'
theorem ok_facets {f fD fN : Addr} {fd fdD fdN : FuncData} {k : Nat} (F : Fun K "_law_facets" "_law_facets" sFacets f fd) (FD : Fun K "_law_draw" "_law_draw" sDraw fD fdD) (bD : Binds K fdD ["_law_tape_here", "_law_many"] []) (gD : mg "_law_draw" = some (.ref fD))
    (FN : Fun K "_law_names" "_law_names" sNames fN fdN) (bN : Binds K fdN ["_law_tape_here", "_law_many"] []) (gN : mg "_law_names" = some (.ref fN))
    (ml : mg "len" = none) (mr : mg "range" = none) (mi : mg "int" = none) (ms : mg "sorted" = none) (mt : mg "tuple" = none) : FnOk P w K mg base CX0 (k + 3) f fd ["_law_tape_here", "_law_many", "_law_most"] spFacets := by
  have GD : FnOk P w K mg base CX0 (k + 2) fD fdD ["_law_tape_here", "_law_many"] spDraw := ok_draw FD
  have GN : FnOk P w K mg base CX0 (k + 2) fN fdN ["_law_tape_here", "_law_many"] spNames := ok_names FN FD bD gD ml mr mi
  refine F.ok scFacets (fun vs H Q E h => ?_) (fun cdv A outer s H vs Q E hr h => ?_)
  · obtain ⟨t, m, n, s, rfl, _⟩ := h
    rfl
  · obtain ⟨t, m, n, so, rfl, hm, hs0, hs1, hT, hn, q⟩ := h
    refine ⟨_, pss_cons (ps_set (i := 3) scFacets.nd rfl (.inl rfl) (pe_lst pa_nil))
      (pss_cons (ps_for PassesOwn.never rfl (pi_list (pe_callB cr_sortedS (by rfl) ms (by decide +kernel) (pa_cons (pe_call GN hr (by rfl) gN FN.kp bN .nil pass0 (pa_cons (pv 0) (pa_cons (pv 1) pa_nil))) pa_nil))) (pg_name (i := 4) scFacets.nd rfl (.inl rfl))
        (pss_cons (ps_set (i := 5) scFacets.nd rfl (.inl rfl) (pe_tupleOf (by rfl) mt (pe_callB cr_sortedS (by rfl) ms (by decide +kernel) (pa_cons (pe_call GN hr (by rfl) gN FN.kp bN .nil pass0 (pa_cons (pv 0) (pa_cons (pe_op op_add pe_int (pe_call GD hr (by rfl) gD FD.kp bD .nil pass0 (pa_cons (pv 0) (pa_cons (pe_op op_sub (pv 2) pe_int) pa_nil)))) pa_nil))) pa_nil))))
        (pss_one (ps_expr (pe_bm PySem.F.plainAttrs_list PySem.F.slot_list_append PySem.F.type_list_append mt_append (pv 3) (pa_cons (pe_tup (pa_cons (pv 4) (pa_cons (pe_ifExp (PW.pt (pw_and (pt_cmpR (op_neD hr.units) (pv 3) (pe_lst pa_nil) (nomark _)) (pw_and1 (pt_cmpR op_eq (pe_call GD hr (by rfl) gD FD.kp bD .nil pass0 (pa_cons (pv 0) (pa_cons pe_int pa_nil))) pe_int (nomark _)))))
            (pe_ix ix_tup (pe_ix ix_list (pv 3) (pe_un un_neg pe_int) (fun _ _ => rfl)) pe_int (fun _ _ => rfl)) (pv 5)) pa_nil))) pa_nil))))))
      (pss_one (ps_ret (pe_tupleOf (by rfl) mt (pv 3))))), ?_⟩
    refine ⟨Nat.zero_le _, fun l nl => ?_⟩
    have nlt := hT.ne_none nl
    refine ⟨.ref t, rfl, .int (m : Int), rfl, t, m, n, rfl, by omega, hT.upd nlt, by omega, fun p H1 ws x1 T1 np e1 l1 b1 nd1 => ?_⟩
    refine ⟨p, ws, rfl, SqL.of e1, by omega, fun ys p2 hperm hso np2 => ?_⟩
    have b2 : ∀ x ∈ ys, Wd x := fun x hx => b1 x (hperm.mem_iff.mp hx)
    have ly : ys.length = m := by rw [hperm.length_eq, l1]
    have hyp : ys.Pairwise ltS := sorted_pairwise hso (hperm.nodup_iff.mpr (nd1 (by omega)))
    have x1' : Ex t H H1 := (Same.ex (same_upd nl)).trans x1
    have np2t := T1.ne_none np2
    have np2H : H p2 = none := x1'.free np2t np2
    have hl1 : H1 l = some (.lst []) := x1 l _ nlt upd_same
    have nlp2 : l ≠ p2 := ne_of_none hl1 np2
    refine ⟨p2, rfl, ⟨_, SqL.of upd_same⟩, ?_⟩
    refine for_it (walk_list (xs := ys.map V.str)) (fun i σ H3 => ∃ (y4 y5 : Option V) (vs : List V) (fs : List (Str × List Str)), σ = [some (.ref t), some (.int (m : Int)), some (.int so), some (.ref l), y4, y5] ∧ Ex t H H3 ∧ TapeAt H3 t (n + 12 + 14 * i) ∧ H3 p2 = some (.lst (ys.map V.str)) ∧ H3 l = some (.lst vs) ∧ RpAll H3 vs (fs.map dP) ∧ fs.length = i ∧ FOk fs ∧ fs.map (·.1) = ys.take i) ?_ ?_ ?_ ?_
    · refine ⟨none, none, [], [], rfl, x1'.trans (Same.ex (same_upd np2)), (T1.upd np2t).mono (by omega), upd_same, ?_, .nil, rfl, (fun p hp => by cases hp), rfl⟩
      rw [upd_ne nlp2]
      exact hl1
    · rintro i σ H3 _ ⟨y4, y5, vs, fs, rfl, x3, T3, e3, d3, r3, l3, f3, fn3⟩
      exact SqL.of e3
    · rintro i x σ H4 H3 hi ⟨y4, y5, vs, fs, rfl, x3, T3, e3, d3, r3, l3, f3, fn3⟩ ⟨rfl, fx⟩
      rw [List.length_map] at hi
      rw [List.getElem?_map, List.getElem?_eq_getElem hi] at fx
      cases fx
      have hin : n + 12 + 14 * i ≤ 800100 := by omega
      refine ⟨.ref t, rfl, .ref t, rfl, .int so, rfl, so, 1, rfl, rfl, t, so - 1, _, rfl, by omega, by omega, T3, by omega, fun r H5 x5 T5 h50 h51 => ?_⟩
      obtain ⟨r', rfl⟩ : ∃ r' : Nat, r = r' := ⟨r.toNat, by omega⟩
      refine ⟨2, (r' : Int), rfl, rfl, t, 2 + r', _, by rfl, by omega, T5, by omega, fun p3 H6 us x6 T6 np3 e6 l6 b6 nd6 => ?_⟩
      refine ⟨p3, us, rfl, SqL.of e6, by omega, fun zs p4 hperm2 hso2 np4 => .inl ⟨p4, _, rfl, SqL.of upd_same, fun p5 np5 => ?_⟩⟩
      have lz : zs.length = 2 + r' := by rw [hperm2.length_eq, l6]
      have hzp : zs.Pairwise ltS := sorted_pairwise hso2 (hperm2.nodup_iff.mpr (nd6 (by omega)))
      have bz : ∀ x ∈ zs, Wd x := fun x hx => b6 x (hperm2.mem_iff.mp hx)
      have np4t := T6.ne_none np4
      have T7 := T6.upd (o := .lst (zs.map V.str)) np4t
      have np5t := T7.ne_none np5
      have T8 := T7.upd (o := .tup (zs.map V.str)) np5t
      have sm : Same H6 (upd (upd H6 p4 (.lst (zs.map V.str))) p5 (.tup (zs.map V.str))) := Same.trans (same_upd np4) (same_upd np5)
      have x8 : Ex t H3 (upd (upd H6 p4 (.lst (zs.map V.str))) p5 (.tup (zs.map V.str))) := (x5.trans x6).trans (Same.ex sm)
      have np2t' : p2 ≠ t := np2t
      have e8 := x8 _ _ np2t' e3
      have d8 := x8 _ _ nlt d3
      have r8 := r3.keep (T3.keepT x8) (immAll_map imm_dP fs)
      have hw8 : Rp (upd (upd H6 p4 (.lst (zs.map V.str))) p5 (.tup (zs.map V.str))) (.ref p5) (dW zs) := Rp.dW_mk upd_same
      have x38 := x3.trans x8
      clear hw8
      have hw8 : Rp (upd (upd H6 p4 (.lst (zs.map V.str))) p5 (.tup (zs.map V.str))) (.ref p5) (dW zs) := Rp.dW_mk upd_same
      generalize upd (upd H6 p4 (.lst (zs.map V.str))) p5 (.tup (zs.map V.str)) = H8 at *
      have fin : ∀ (H9 : Hp) (v : V) (us' : List Str) (y5' : Option V), Ex t H8 H9 → TapeAt H9 t (n + 12 + 14 * (i + 1)) → Rp H9 v (dW us') → 2 ≤ us'.length → us'.length ≤ 4 → (∀ x ∈ us', Wd x) → us'.Pairwise ltS →
          (2 ≤ sizeLine ∧ ∀ T, H9 T = none → ∃ l' xs y, V.ref l = .ref l' ∧ [V.ref T] = [y] ∧ upd H9 T (.tup [.str ys[i], v]) l' = some (.lst xs) ∧ xs.length < sizeLine ∧
            ∃ (y4 y5 : Option V) (vs : List V) (fs : List (Str × List Str)), [some (.ref t), some (.int (m : Int)), some (.int so), some (.ref l), some (.str ys[i]), y5'] = [some (.ref t), some (.int (m : Int)), some (.int so), some (.ref l), y4, y5] ∧ Ex t H (upd (upd H9 T (.tup [.str ys[i], v])) l' (.lst (xs ++ [y]))) ∧ TapeAt (upd (upd H9 T (.tup [.str ys[i], v])) l' (.lst (xs ++ [y]))) t (n + 12 + 14 * (i + 1)) ∧ (upd (upd H9 T (.tup [.str ys[i], v])) l' (.lst (xs ++ [y]))) p2 = some (.lst (ys.map V.str)) ∧ (upd (upd H9 T (.tup [.str ys[i], v])) l' (.lst (xs ++ [y]))) l = some (.lst vs) ∧ RpAll (upd (upd H9 T (.tup [.str ys[i], v])) l' (.lst (xs ++ [y]))) vs (fs.map dP) ∧ fs.length = i + 1 ∧ FOk fs ∧ fs.map (·.1) = ys.take (i + 1)) := by
        intro H9 v us' y5' x9 T9 hv hu0 hu1 hu2 hu3
        refine ⟨by decide, fun T nT => ?_⟩
        have nTt := T9.ne_none nT
        have d9 := x9 _ _ nlt d8
        have e9 := x9 _ _ np2t' e8
        have nlT : l ≠ T := ne_of_none d9 nT
        have np2T : p2 ≠ T := ne_of_none e9 nT
        have kT : KeepT H9 (upd (upd H9 T (.tup [.str ys[i], v])) l (.lst (vs ++ [.ref T]))) := (Same.keepT (same_upd nT)).trans (keepT_lst (xs := vs) (by rw [upd_ne nlT]; exact d9))
        refine ⟨l, vs, .ref T, rfl, rfl, ?_, ?_, some (.str ys[i]), y5', vs ++ [.ref T], fs ++ [(ys[i], us')], rfl, ?_, ?_, ?_, upd_same, ?_, ?_, ?_, ?_⟩
        · rw [upd_ne nlT]
          exact d9
        · rw [r8.length, List.length_map, l3]
          exact small1000 (by omega)
        · exact ((x38.trans x9).trans (Same.ex (same_upd nT))).upd_free nl
        · exact (T9.upd nTt).upd nlt
        · rw [upd_ne nlp2.symm, upd_ne np2T]
          exact e9
        · rw [List.map_append]
          refine ((r8.keep (T8.keepT x9) (immAll_map imm_dP fs)).keep kT (immAll_map imm_dP fs)).append (.cons (.tup (xs := [.str ys[i], v]) ?_ (.cons (.str _) (.cons (hv.keep kT (imm_dW us')) .nil))) .nil)
          rw [upd_ne nlT.symm, upd_same]
        · rw [List.length_append, l3]
          rfl
        · intro p hp
          rcases List.mem_append.mp hp with hp | hp
          · exact f3 p hp
          · rw [List.mem_singleton.mp hp]
            exact ⟨b2 _ (List.getElem_mem hi), hu0, hu1, hu2, hu3⟩
        · rw [List.map_append, fn3, List.take_succ_eq_append_getElem hi]
          rfl
      refine ⟨.ref l, rfl, .inl ⟨rfl, _, SqL.of d8⟩, .str ys[i], rfl, .ref l, rfl, Nat.zero_le _, fun z nz => ?_⟩
      have nzt := T8.ne_none nz
      refine ⟨.list (fs.map dP), .list [], Rp.dp (.lst (same_upd nz _ _ d8) (r8.same (same_upd nz))), Rp.dp (.lst upd_same .nil), shaped_of (canLayAll_map fun p hp => lay_dP (f3 p hp).1 (f3 p hp).2.2.2.1) (by have := depthAll_map (k := 2) (xs := fs) fun p _ => dep_dP p; show PyData.depthAll _ + 1 ≤ 64; omega), rfl, _, rfl, ?_⟩
      rw [eqv_nil_l]
      cases hfs : fs with
      | nil => exact ⟨_, rfl, fin _ _ zs _ (Same.ex (same_upd nz)) ((T8.upd nzt).mono (by omega)) (hw8.same (same_upd nz)) (by omega) (by omega) bz hzp⟩
      | cons f0 fr =>
        refine ⟨.ref t, rfl, t, 4, _, rfl, by decide, by decide, T8.upd nzt, by omega, fun r2 H9 x9 T9 h90 h91 => ⟨rfl, _, rfl, ite2 (fun h0 => ?_) (fun h0 => ?_)⟩⟩
        · have hfl : fs.length - 1 < fs.length := by rw [hfs]; simp
          have hget : (fs.map dP)[fs.length - 1]? = some (dP fs[fs.length - 1]) := by rw [List.getElem?_map, List.getElem?_eq_getElem hfl]; rfl
          have x89 : Ex t H8 H9 := (Same.ex (same_upd nz)).trans x9
          have r9 := r8.keep (T8.keepT x89) (immAll_map imm_dP fs)
          obtain ⟨v9, hv9, hr9⟩ := r9.getD hget
          have hvl := r8.length
          rw [List.length_map] at hvl
          cases hr9 with
          | tup ha hs =>
            rename_i a9 xs9
            cases hs with
            | cons h1 hs2 =>
              cases hs2 with
              | cons h2 hs3 =>
                cases hs3
                have hat : atI vs (-1) = some (.ref a9) := by
                  have hv1 : vs = vs.dropLast ++ [.ref a9] := by
                    have hne : vs ≠ [] := by intro z; rw [z] at hvl; simp at hvl; omega
                    rw [← hvl] at hv9
                    have : vs.getLast hne = .ref a9 := by
                      rw [List.getLast_eq_getElem]
                      have := List.getElem?_eq_getElem (l := vs) (i := vs.length - 1) (by rw [hvl]; exact hfl)
                      rw [this] at hv9
                      exact Option.some.inj hv9
                    rw [← this, List.dropLast_concat_getLast]
                  rw [hv1]
                  exact atI_last _ _
                have hp0 := f3 _ (List.getElem_mem hfl)
                exact ⟨.ref l, rfl, 1, rfl, l, vs, -1, .ref a9, rfl, rfl, SqL.of (x89 _ _ nlt d8), hat, a9, _, 1, _, rfl, rfl, SqT.of ha, rfl, fin _ _ _ _ x89 (T9.mono (by omega)) h2 hp0.2.1 hp0.2.2.1 hp0.2.2.2.1 hp0.2.2.2.2⟩
        · have x89 : Ex t H8 H9 := (Same.ex (same_upd nz)).trans x9
          exact ⟨_, rfl, fin _ _ zs _ x89 (T9.mono (by omega)) (hw8.keep (T8.keepT x89) (imm_dW zs)) (by omega) (by omega) bz hzp⟩
    · rintro σ H3 ⟨y4, y5, vs, fs, rfl, x3, T3, e3, d3, r3, l3, f3, fn3⟩
      rw [List.length_map, ly] at T3 l3 fn3
      refine ⟨.ref l, rfl, .inl ⟨l, _, rfl, SqL.of d3, fun z nz => ?_⟩⟩
      exact q _ _ fs (x3.trans (Same.ex (same_upd nz))) ((T3.upd (T3.ne_none nz)).mono (by omega)) (.tup upd_same (r3.same (same_upd nz))) l3 f3 (by rw [fn3, ← ly, List.take_length]; exact hyp)
end
end Sg

namespace Sg
open PySem PySem.Spec PyProof.Rows L2
/-- a case as they are drawn -/
def COk (c : List (List Str)) : Prop := c.length ≤ 4 ∧ ∀ ws ∈ c, 1 ≤ ws.length ∧ ws.length ≤ 4 ∧ ∀ x ∈ ws, Wd x
theorem Rp.dP_inv {H : Hp} {v : V} {p : Str × List Str} (h : Rp H v (dP p)) : ∃ a u, v = .ref a ∧ H a = some (.tup [.str p.1, u]) ∧ Rp H u (dW p.2) := by
  cases h with
  | tup ha hs =>
    cases hs with
    | cons h1 hs2 =>
      cases hs2 with
      | cons h2 hs3 =>
        cases hs3
        cases h1
        exact ⟨_, _, rfl, ha, h2⟩
end Sg

namespace Sg
open PySem PySem.Spec PyProof.Rows L2
/-! ### the mathematics of settings -/
def stepM (acc : List (List Str)) (ws : List Str) : List (List Str) := acc.flatMap fun s => ws.map fun w => s ++ [w]
def settingsM (c : List (List Str)) : List (List Str) := c.foldl stepM [[]]
theorem stepM_len (acc : List (List Str)) (ws : List Str) : (stepM acc ws).length = acc.length * ws.length := by
  unfold stepM
  induction acc with
  | nil => simp
  | cons s r ih =>
    rw [List.flatMap_cons, List.length_append, ih, List.length_map, List.length_cons, Nat.succ_mul, Nat.add_comm]
theorem settingsM_succ (c : List (List Str)) (i : Nat) (h : i < c.length) : settingsM (c.take (i + 1)) = stepM (settingsM (c.take i)) c[i] := by
  unfold settingsM
  rw [List.take_succ_eq_append_getElem h, List.foldl_append]
  rfl
theorem settingsM_len {c : List (List Str)} (h : ∀ ws ∈ c, ws.length ≤ 4) : ∀ i, i ≤ c.length → (settingsM (c.take i)).length ≤ 4 ^ i
  | 0, _ => by simp [settingsM]
  | i + 1, hi => by
    rw [settingsM_succ c i hi, stepM_len, Nat.pow_succ]
    exact Nat.mul_le_mul (settingsM_len h i (by omega)) (h _ (List.getElem_mem hi))
theorem pow4 {i : Nat} (h : i ≤ 4) : 4 ^ i ≤ 256 := by
  have : i = 0 ∨ i = 1 ∨ i = 2 ∨ i = 3 ∨ i = 4 := by omega
  rcases this with rfl | rfl | rfl | rfl | rfl <;> decide
theorem pow43 {i : Nat} (h : i < 4) : 4 ^ i ≤ 64 := by
  have : i = 0 ∨ i = 1 ∨ i = 2 ∨ i = 3 := by omega
  rcases this with rfl | rfl | rfl | rfl <;> decide
theorem settingsM_each {c : List (List Str)} : ∀ i, i ≤ c.length → ∀ s ∈ settingsM (c.take i), s.length = i
  | 0, _, s, h => by
    have : s = [] := by simpa [settingsM] using h
    rw [this]
    rfl
  | i + 1, hi, s, h => by
    rw [settingsM_succ c i hi] at h
    unfold stepM at h
    obtain ⟨a, ha, hs⟩ := List.mem_flatMap.mp h
    obtain ⟨w, _, rfl⟩ := List.mem_map.mp hs
    rw [List.length_append, settingsM_each i (by omega) a ha]
    rfl
theorem flat_succ {α β : Type} (f : α → List β) (xs : List α) (i : Nat) (h : i < xs.length) : (xs.take (i + 1)).flatMap f = (xs.take i).flatMap f ++ f xs[i] := by
  rw [List.take_succ_eq_append_getElem h, List.flatMap_append, List.flatMap_cons, List.flatMap_nil, List.append_nil]
theorem flat_len_le (acc : List (List Str)) (ws : List Str) (i : Nat) : ((acc.take i).flatMap fun s => ws.map fun w => s ++ [w]).length ≤ acc.length * ws.length := by
  have e := stepM_len (acc.take i) ws
  unfold stepM at e
  rw [e]
  exact Nat.mul_le_mul (by rw [List.length_take]; exact Nat.min_le_right _ _) (Nat.le_refl _)
/-! ### loops, whatever their bodies are -/
theorem out_it {J : It} {n : Nat} {G : Hp → Prop} {Y : Nat → Hp → V → Hp → Prop} (w : Walk J n G Y) {B : (Hp → Prop) → Nat → V → Hp → Hp → Prop} {H1 : Hp} {Qd : Hp → Prop} (Pv : Nat → Hp → Prop) (h0 : Pv 0 H1) (hG : ∀ i H, i ≤ n → Pv i H → G H)
    (hs : ∀ i x H H', i < n → Pv i H → Y i H x H' → B (Pv (i + 1)) i x H H') (hd : ∀ H, Pv n H → Qd H) :
    ∃ W : Nat → Nat → Hp → Prop, (∃ m, W 0 m H1) ∧ ∀ i m H, W i m H → (J.stop i H ∧ Qd H) ∨ (J.go i H ∧ ∃ Nx : Hp → Prop, (∀ H', Nx H' → ∃ m', m' < m ∧ W (i + 1) m' H') ∧ ∀ x H', J.yld i H x H' → B Nx i x H H') := by
  refine ⟨fun i m H => m = n - i ∧ i ≤ n ∧ Pv i H, ⟨n, by simp, Nat.zero_le _, h0⟩, ?_⟩
  rintro i m H ⟨rfl, hi, p⟩
  have q := hG i H hi p
  by_cases hlt : i < n
  · exact .inr ⟨w.goes i H hlt q, Pv (i + 1), fun H' p' => ⟨n - (i + 1), by omega, rfl, hlt, p'⟩, fun x H' y => hs i x H H' hlt p (w.yields i H x H' hlt q y)⟩
  · have e : i = n := by omega
    subst e
    exact .inl ⟨w.stops H q, hd H p⟩
abbrev sSettingsIn : Stmt := topS 5
abbrev nSettingsIn : List Str := ["case", "settings", "words", "setting", "word"]
theorem scSettingsIn : FnScope nSettingsIn ["case"] (defScope sSettingsIn) := ⟨rfl, rfl, rfl, by decide +kernel, rfl, by decide +kernel, by decide +kernel⟩
def spSettings : Sp := fun vs H Q _ => ∃ (v : V) (c : List (List Str)), vs = [v] ∧ Rp H v (dC c) ∧ COk c ∧ ∀ (p : Addr) (H' : Hp), Same H H' → H p = none → Rp H' (.ref p) (.list ((settingsM c).map dW)) → Q (.ref p) H'
theorem RpAll.snoc {H : Hp} {D : Addr} {us : List V} {p : Addr} {ss : List (List Str)} {ws : List Str} (d : H D = some (.lst us)) (h : RpAll H us (ss.map dW)) (hp : H p = some (.tup (ws.map V.str))) : RpAll (upd H D (.lst (us ++ [.ref p]))) (us ++ [.ref p]) ((ss ++ [ws]).map dW) := by
  rw [List.map_append]
  have kT : KeepT H (upd H D (.lst (us ++ [.ref p]))) := keepT_lst d
  exact (h.keep kT (immAll_map imm_dW ss)).append (.cons ((Rp.dW_mk hp).keep kT (imm_dW ws)) .nil)
section
variable {P : Program} {w : World} {K : PySem.W.Frag} {mg : Str → Option Value} {base : Heap}
theorem ok_settings_in {f : Addr} {fd : FuncData} {k : Nat} (F : Fun K "settings_in" "settings_in" sSettingsIn f fd) : FnOk P w K mg base CX0 (k + 1) f fd ["case"] spSettings := by
  refine F.ok scSettingsIn (fun vs H Q E h => ?_) (fun cdv A outer s H vs Q E hr h => ?_)
  · obtain ⟨v, c, rfl, _⟩ := h
    rfl
  · obtain ⟨v, c, rfl, hv, hc, q⟩ := h
    refine ⟨_, pss_cons (ps_set (i := 1) scSettingsIn.nd rfl (.inl rfl) (pe_lst (pa_cons (pe_tup pa_nil) pa_nil)))
      (pss_cons (ps_for PassesOwn.never rfl (pi_tup (pv 0)) (pg_name (i := 2) scSettingsIn.nd rfl (.inr rfl))
        (pss_one (ps_setLc2 (i := 1) (own := [("setting", 3), ("word", 4)]) (vs1 := [4]) (g := gName 3) (tt := tYes) (wi1 := iTup K (tVar 2)) (g1 := gName 4) (tt1 := tYes) (te := tOp (rCatA K) (tVar 3) (tTup (tCons (tVar 4) tNil))) rfl scSettingsIn.nd rfl rfl (sw_true rfl rfl rfl (by decide +kernel)) (pi_list (pv 1)) (blkOk_by (N := nSettingsIn) (sc := defScope sSettingsIn) (by decide +kernel)) (by decide)
          (fun _ _ _ _ _ => pg_name (i := 3) scSettingsIn.nd rfl (.inl rfl)) (fun _ _ _ _ _ => pts_nil) (fun _ _ _ _ _ => pi_tup (pv 2)) (fun _ _ _ _ _ => pg_name (i := 4) scSettingsIn.nd rfl (.inl rfl)) (fun _ _ _ _ _ => pts_nil)
          (fun _ _ _ _ _ => pe_op op_catA (pv 3) (pe_tup (pa_cons (pv 4) pa_nil))))))
      (pss_one (ps_ret (pv 1)))), ?_⟩
    refine ⟨Nat.zero_le _, fun t0 nt0 => ⟨by show 1 ≤ sizeLine; decide, fun l0 nl0 => ?_⟩⟩
    have s0 : Same H (upd (upd H t0 (.tup [])) l0 (.lst [.ref t0])) := Same.trans (same_upd nt0) (same_upd nl0)
    have nl0H : H l0 = none := (same_upd nt0).free nl0
    have nlt0 : t0 ≠ l0 := fun e => by
      subst e
      rw [upd_same] at nl0
      cases nl0
    unfold dC at hv
    cases hv with
    | tup ha hs =>
      rename_i a vs
      have hlen := hs.length
      rw [List.length_map] at hlen
      refine ⟨.ref a, rfl, a, rfl, ⟨vs, SqT.of (s0 _ _ ha)⟩, ?_⟩
      refine for_it (walk_tup (xs := vs)) (fun i σ H3 => ∃ (y2 : Option V) (l : Addr) (us : List V), σ = [some (.ref a), some (.ref l), y2, none, none] ∧ Same H H3 ∧ H l = none ∧ H3 l = some (.lst us) ∧ RpAll H3 us ((settingsM (c.take i)).map dW)) ?_ ?_ ?_ ?_
      · refine ⟨none, l0, [.ref t0], rfl, s0, nl0H, upd_same, ?_⟩
        show RpAll _ [.ref t0] [dW []]
        refine .cons (Rp.dW_mk ?_) .nil
        rw [upd_ne nlt0, upd_same]
        rfl
      · rintro i σ H3 _ ⟨y2, l, us, rfl, s3, _⟩
        exact SqT.of (s3 _ _ ha)
      · rintro i x σ H4 H3 hi ⟨y2, l, us, rfl, s3, nl, d3, r3⟩ ⟨rfl, fx⟩
        obtain ⟨d, hd, hx⟩ := hs.get fx
        have hic : i < c.length := by omega
        rw [List.getElem?_map, List.getElem?_eq_getElem hic] at hd
        cases hd
        obtain ⟨b, rfl, hb⟩ := (hx.same s3).dW_inv
        have hlw : c[i].length ≤ 4 := (hc.2 _ (List.getElem_mem hic)).2.1
        have hS := settingsM_len (fun ws hw => (hc.2 ws hw).2.1) i (by omega)
        have h4 := pow43 (i := i) (by have := hc.1; omega)
        have hE := settingsM_each (c := c) i (by omega)
        generalize hss : settingsM (c.take i) = ss at *
        have hlu := r3.length
        rw [List.length_map] at hlu
        have hmul : ss.length * c[i].length ≤ 64 * 4 := Nat.mul_le_mul (by omega) hlw
        refine ⟨.ref l, rfl, l, rfl, ⟨us, SqL.of d3⟩, fun D nD => ?_⟩
        have nDH : H D = none := s3.free nD
        refine out_it (walk_list (xs := us)) (fun j H5 => ∃ ts : List V, Same H3 H5 ∧ H5 D = some (.lst ts) ∧ RpAll H5 ts (((ss.take j).flatMap fun s => c[i].map fun w => s ++ [w]).map dW)) ⟨[], same_upd nD, upd_same, .nil⟩ ?_ ?_ ?_
        · rintro j H5 _ ⟨ts, s5, _⟩
          exact SqL.of (s5 _ _ d3)
        · rintro j x H6 H5 hj ⟨ts, s5, d5, r5⟩ ⟨rfl, fy⟩
          obtain ⟨dd, hdd, hx2⟩ := r3.get fy
          have hjs : j < ss.length := by omega
          rw [List.getElem?_map, List.getElem?_eq_getElem hjs] at hdd
          cases hdd
          obtain ⟨g, rfl, hg⟩ := hx2.dW_inv
          refine ⟨rfl, .ref b, rfl, b, rfl, ⟨_, SqT.of (s5 _ _ hb)⟩, ?_⟩
          refine out_it (walk_tup (xs := c[i].map V.str)) (fun m H7 => ∃ ts : List V, Same H3 H7 ∧ H7 D = some (.lst ts) ∧ RpAll H7 ts ((((ss.take j).flatMap fun s => c[i].map fun w => s ++ [w]) ++ ((c[i].take m).map fun w => ss[j] ++ [w])).map dW)) ⟨ts, s5, d5, ?_⟩ ?_ ?_ ?_
          · rw [List.take_zero, List.map_nil, List.append_nil]
            exact r5
          · rintro m H7 _ ⟨ts, s7, _⟩
            exact SqT.of (s7 _ _ hb)
          · rintro m x H8 H7 hm ⟨ts, s7, d7, r7⟩ ⟨rfl, fz⟩
            rw [List.length_map] at hm
            rw [List.getElem?_map, List.getElem?_eq_getElem hm] at fz
            cases fz
            have hts := r7.length
            have hfl := flat_len_le ss c[i] j
            rw [List.length_map, List.length_append, List.length_map, List.length_take] at hts
            have e1 : (c[i].take (m + 1)).map (fun w => ss[j] ++ [w]) = (c[i].take m).map (fun w => ss[j] ++ [w]) ++ [ss[j] ++ [c[i][m]]] := by
              rw [List.take_succ_eq_append_getElem hm, List.map_append]
              rfl
            refine ⟨rfl, .ref g, rfl, .str c[i][m], rfl, by show 1 ≤ sizeLine; decide, fun p np => ?_⟩
            have sp : Same H7 (upd H7 p (.tup [.str c[i][m]])) := same_upd np
            refine ⟨g, p, ss[j].map V.str, [.str c[i][m]], rfl, rfl, SqT.of (sp _ _ (s7 _ _ hg)), SqT.of upd_same, ?_, fun e0 => ?_, (fun _ e => nomatch e), fun e0 _ => fun p2 np2 => ?_⟩
            · have hej := hE _ (List.getElem_mem hjs)
              have := hc.1
              rw [List.length_map, hej]
              exact sz _ (by simp; omega)
            · have hs0 : ss[j] = [] := by simpa using e0
              have d8 := sp _ _ d7
              refine ⟨ts, d8, small1000 (by omega), ts ++ [.ref p], fun a o e => ?_, upd_same, ?_⟩
              · rw [upd_ne (fun z => by subst z; rw [nD] at e; cases e)]
                exact sp _ _ (s7 _ _ e)
              · rw [e1, ← List.append_assoc]
                refine RpAll.snoc d8 (r7.same sp) ?_
                rw [hs0]
                exact upd_same
            · have sp2 := Same.trans sp (same_upd (o := .tup (ss[j].map V.str ++ [.str c[i][m]])) np2)
              have d8 := sp2 _ _ d7
              refine ⟨ts, d8, small1000 (by omega), ts ++ [.ref p2], fun a o e => ?_, upd_same, ?_⟩
              · rw [upd_ne (fun z => by subst z; rw [nD] at e; cases e)]
                exact sp2 _ _ (s7 _ _ e)
              · rw [e1, ← List.append_assoc]
                refine RpAll.snoc d8 (r7.same sp2) ?_
                rw [List.map_append]
                exact upd_same
          · rintro H7 ⟨ts, s7, d7, r7⟩
            refine ⟨ts, s7, d7, ?_⟩
            rw [flat_succ _ _ _ hjs]
            rw [List.length_map, List.take_length] at r7
            exact r7
        · rintro H5 ⟨ts, s5, d5, r5⟩
          refine ⟨some (.ref b), D, ts, rfl, Same.trans s3 s5, nDH, d5, ?_⟩
          rw [settingsM_succ c i hic, hss]
          rw [hlu, List.take_length] at r5
          exact r5
      · rintro σ H3 ⟨y2, l, us, rfl, s3, nl, d3, r3⟩
        rw [hlen, List.take_length] at r3
        exact ⟨.ref l, rfl, q _ _ s3 nl (.lst d3 r3)⟩
end
end Sg

namespace Sg
open PySem PySem.Spec PyProof.Rows L2
abbrev sWhole : Stmt := topS 6
abbrev nWhole : List Str := ["facets", "name", "words"]
theorem scWhole : FnScope nWhole ["facets"] (defScope sWhole) := ⟨rfl, rfl, rfl, by decide +kernel, rfl, by decide +kernel, by decide +kernel⟩
abbrev sBoth : Stmt := topS 9
abbrev nBoth : List Str := ["words", "others", "word"]
theorem scBoth : FnScope nBoth ["words", "others"] (defScope sBoth) := ⟨rfl, rfl, rfl, by decide +kernel, rfl, by decide +kernel, by decide +kernel⟩
abbrev sLSettings : Stmt := topS 26
abbrev nLSettings : List Str := ["_law_some", "_law_found", "_law_words", "_law_longer", "_law_ahead", "_law_word"]
theorem scLSettings : FnScope nLSettings ["_law_some"] (defScope sLSettings) := ⟨rfl, rfl, rfl, by decide +kernel, rfl, by decide +kernel, by decide +kernel⟩
/-- w is one of os -/
def isIn (os : List Str) (w : Str) : Bool := inV (V.str w) (os.map V.str)
theorem all_flat (os : List Str) : (os.map V.str).all flatV = true := by
  rw [List.all_eq_true]
  intro x hx
  obtain ⟨w, _, rfl⟩ := List.mem_map.mp hx
  rfl
theorem filter_succ {α : Type} (p : α → Bool) (xs : List α) (i : Nat) (h : i < xs.length) : (xs.take (i + 1)).filter p = (xs.take i).filter p ++ (if p xs[i] = true then [xs[i]] else []) := by
  rw [List.take_succ_eq_append_getElem h, List.filter_append]
  congr 1
  by_cases e : p xs[i] = true
  · rw [if_pos e, List.filter_cons_of_pos e]
    rfl
  · rw [if_neg e, List.filter_cons_of_neg e]
    rfl
/-- [w for w in ws if ..], ws a tuple of texts -/
theorem filt_lc {K : PySem.W.Frag} {a : Addr} {ws : List Str} (p : Str → Bool) {σ : L2.St} {vs : List Nat} {slot : Nat} {tt : TT} {H1 : Hp} {D : Addr} {Qd : Hp → Prop} (nD : H1 D = none) (ha : H1 a = some (.tup (ws.map V.str))) (hlen : ws.length ≤ 1000)
    (hw : ∀ x : V, wipe ((wipe σ vs).set slot (some x)) vs = wipe σ vs) (hv : ∀ x : V, ((wipe σ vs).set slot (some x))[slot]? = some (some x))
    (ht : ∀ (i : Nat) (h : i < ws.length) (H2 : Hp) (Q : Bool → Hp → Prop), Same H1 H2 → Q (p ws[i]) H2 → tt ((wipe σ vs).set slot (some (.str ws[i]))) H2 Q)
    (hd : ∀ H', Same H1 H' → H' D = some (.lst ((ws.filter p).map V.str)) → Qd H') :
    ∃ W : Nat → Nat → Hp → Prop, (∃ m, W 0 m (upd H1 D (.lst []))) ∧ ∀ i m H, W i m H →
      ((Itt K a).stop i H ∧ Qd H) ∨ ((Itt K a).go i H ∧ ∃ Nx : Hp → Prop, (∀ H', Nx H' → ∃ m', m' < m ∧ W (i + 1) m' H') ∧ ∀ x H', (Itt K a).yld i H x H' → gName slot x (wipe σ vs) H' fun σ2 H2 => wipe σ2 vs = wipe σ vs ∧ tt σ2 H2 fun b H3 =>
        if b = true then tVar slot σ2 H3 fun y H4 => ∃ acc, H4 D = some (.lst acc) ∧ acc.length < sizeLine ∧ Nx (upd H4 D (.lst (acc ++ [y]))) else Nx H3) := by
  refine lc_it (walk_tup (xs := ws.map V.str)) (fun i H3 => Same H1 H3 ∧ H3 D = some (.lst (((ws.take i).filter p).map V.str))) ⟨same_upd nD, upd_same⟩ (fun i H3 _ h3 => SqT.of (h3.1 _ _ ha)) ?_ ?_
  · rintro i x H4 H3 hi ⟨s3, d3⟩ ⟨rfl, fx⟩
    rw [List.length_map] at hi
    rw [List.getElem?_map, List.getElem?_eq_getElem hi] at fx
    cases fx
    refine ⟨hw _, ht i hi _ _ s3 ?_⟩
    have e := filter_succ p ws i hi
    by_cases hp : p ws[i] = true
    · rw [if_pos hp] at e ⊢
      refine ⟨_, hv _, _, d3, ?_, fun b o eb => ?_, ?_⟩
      · rw [List.length_map]
        have h1 : ((ws.take i).filter p).length ≤ (ws.take i).length := List.length_filter_le _ _
        rw [List.length_take] at h1
        exact small1000 (by omega)
      · rw [upd_ne (fun z => by subst z; rw [nD] at eb; cases eb)]
        exact s3 _ _ eb
      · rw [upd_same, e, List.map_append]
        rfl
    · rw [if_neg hp] at e ⊢
      refine ⟨s3, ?_⟩
      rw [e, List.append_nil]
      exact d3
  · rintro H3 ⟨s3, d3⟩
    rw [List.length_map, List.take_length] at d3
    exact hd _ s3 d3
/-- a list or a tuple that a name holds is walked -/
def iAny (K : PySem.W.Frag) (i : Nat) : TI := fun σ H R => ∃ v, σ[i]? = some (some v) ∧ ∃ a, v = .ref a ∧ (((∃ xs, SqL K H a xs) ∧ R (Itl K a) H) ∨ ((∃ xs, SqT K H a xs) ∧ R (Itt K a) H))
theorem pi_any {X : Cx} {tg l : Expr} {i : Nat} (hl : PE X l (tVar i)) : PI X tg l (iAny X.K i) := by
  refine ⟨fun pins s σ H R I h => ?_⟩
  obtain ⟨v, hv, a, e, h | h⟩ := h
  · exact (pi_list hl).run pins s σ H R I ⟨v, hv, a, e, h.1, h.2⟩
  · exact (pi_tup hl).run pins s σ H R I ⟨v, hv, a, e, h.1, h.2⟩
def spSettingsA : Sp := fun vs H Q _ => ∃ (v : V) (c : List (List Str)), vs = [v] ∧ (Rp H v (dC c) ∨ Rp H v (.list (c.map dW))) ∧ COk c ∧ ∀ (p : Addr) (H' : Hp), Same H H' → H p = none → Rp H' (.ref p) (.list ((settingsM c).map dW)) → Q (.ref p) H'
section
variable {P : Program} {w : World} {K : PySem.W.Frag} {mg : Str → Option Value} {base : Heap}
/-! ### whole_case -/
def spWhole : Sp := fun vs H Q _ => ∃ (v : V) (fs : List (Str × List Str)), vs = [v] ∧ Rp H v (dF fs) ∧ fs.length ≤ 4 ∧ ∀ (v' : V) (H' : Hp), Same H H' → Rp H' v' (dC (fs.map (·.2))) → Q v' H'
theorem ok_whole {f : Addr} {fd : FuncData} {k : Nat} (F : Fun K "whole_case" "whole_case" sWhole f fd) (mt : mg "tuple" = none) : FnOk P w K mg base CX0 (k + 1) f fd ["facets"] spWhole := by
  refine F.ok scWhole (fun vs H Q E h => ?_) (fun cdv A outer s H vs Q E hr h => ?_)
  · obtain ⟨v, fs, rfl, _⟩ := h
    rfl
  · obtain ⟨v, fs, rfl, hv, hfl, q⟩ := h
    refine ⟨_, pss_one (ps_ret (pe_tupleOf (by rfl) mt (pe_lc (own := [("name", 1), ("words", 2)]) (g := gTup K 2 (gCons (gName 1) (gCons (gName 2) gNil))) (tt := tYes) (te := tVar 2) rfl scWhole.nd (pi_tup (pv 0)) (blkOk_by (N := nWhole) (sc := defScope sWhole) (by decide +kernel))
      (fun _ _ _ _ _ => pg_tup rfl (pgs_cons (pg_name (i := 1) scWhole.nd rfl (.inl rfl)) (pgs_cons (pg_name (i := 2) scWhole.nd rfl (.inl rfl)) pgs_nil))) (fun _ _ _ _ _ => pts_nil) (fun _ _ _ _ _ => pv 2)))), ?_⟩
    unfold dF at hv
    cases hv with
    | tup ha hs =>
      rename_i a vs
      have hlen := hs.length
      rw [List.length_map] at hlen
      refine ⟨.ref a, rfl, a, rfl, ⟨vs, SqT.of ha⟩, fun D nD => ?_⟩
      refine lc_it (walk_tup (xs := vs)) (fun i H3 => ∃ us : List V, Same H H3 ∧ H3 D = some (.lst us) ∧ RpAll H3 us (((fs.take i).map (·.2)).map dW)) ⟨[], same_upd nD, upd_same, .nil⟩ (fun i H3 _ h3 => let ⟨_, s3, _⟩ := h3; SqT.of (s3 _ _ ha)) ?_ ?_
      · rintro i x H4 H3 hi ⟨us, s3, d3, r3⟩ ⟨rfl, fx⟩
        obtain ⟨d, hd, hr0⟩ := hs.get fx
        have hif : i < fs.length := by omega
        rw [List.getElem?_map, List.getElem?_eq_getElem hif] at hd
        cases hd
        obtain ⟨b, u, rfl, hb, hu⟩ := (hr0.same s3).dP_inv
        obtain ⟨g, rfl, hg⟩ := hu.dW_inv
        refine ⟨b, _, rfl, SqT.of hb, rfl, _, _, rfl, _, _, rfl, rfl, rfl, _, rfl, _, d3, ?_, us ++ [.ref g], fun c o e => ?_, upd_same, ?_⟩
        · rw [r3.length, List.length_map, List.length_map, List.length_take]
          exact small1000 (by omega)
        · rw [upd_ne (fun z => by subst z; rw [nD] at e; cases e)]
          exact s3 _ _ e
        · rw [List.take_succ_eq_append_getElem hif, List.map_append]
          exact RpAll.snoc d3 r3 hg
      · rintro H3 ⟨us, s3, d3, r3⟩
        rw [hlen, List.take_length] at r3
        exact .inl ⟨D, _, rfl, SqL.of d3, fun z nz => q _ _ (Same.trans s3 (same_upd nz)) (.tup upd_same (r3.same (same_upd nz)))⟩
/-! ### words_in_both -/
def spBoth : Sp := fun vs H Q _ => ∃ (u v : V) (ws os : List Str), vs = [u, v] ∧ Rp H u (dW ws) ∧ Rp H v (dW os) ∧ ws.length ≤ 1000 ∧ ∀ (p : Addr) (H' : Hp), Same H H' → H' p = some (.tup ((ws.filter (isIn os)).map V.str)) → Q (.ref p) H'
theorem ok_both {f : Addr} {fd : FuncData} {k : Nat} (F : Fun K "words_in_both" "words_in_both" sBoth f fd) (mt : mg "tuple" = none) : FnOk P w K mg base CX0 (k + 1) f fd ["words", "others"] spBoth := by
  refine F.ok scBoth (fun vs H Q E h => ?_) (fun cdv A outer s H vs Q E hr h => ?_)
  · obtain ⟨u, v, ws, os, rfl, _⟩ := h
    rfl
  · obtain ⟨u, v, ws, os, rfl, hu, hv, hl, q⟩ := h
    refine ⟨_, pss_one (ps_ret (pe_tupleOf (by rfl) mt (pe_lc (own := [("word", 2)]) (g := gName 2) (tt := tTest (tOp (rIn K false) (tVar 2) (tVar 1))) (te := tVar 2) rfl scBoth.nd (pi_tup (pv 0)) (blkOk_by (N := nBoth) (sc := defScope sBoth) (by decide +kernel))
      (fun _ _ _ _ _ => pg_name (i := 2) scBoth.nd rfl (.inl rfl)) (fun _ _ _ _ _ => pts_one (pt_cmpR op_in_seq (pv 2) (pv 1) rfl)) (fun _ _ _ _ _ => pv 2)))), ?_⟩
    obtain ⟨a, rfl, ha⟩ := hu.dW_inv
    obtain ⟨b, rfl, hb⟩ := hv.dW_inv
    refine ⟨.ref a, rfl, a, rfl, ⟨_, SqT.of ha⟩, fun D nD => ?_⟩
    refine filt_lc (isIn os) nD ha hl (fun _ => rfl) (fun _ => rfl) (fun i h H2 Q s2 hq => ?_) (fun H3 s3 d3 => ?_)
    · exact ⟨_, rfl, .ref b, rfl, b, _, rfl, .inr (SqT.of (s2 _ _ hb)), rfl, all_flat os, _, rfl, hq⟩
    · exact .inl ⟨D, _, rfl, SqL.of d3, fun z nz => q _ _ (Same.trans s3 (same_upd nz)) upd_same⟩
/-! ### the law's settings -/
theorem ok_lsettings {f : Addr} {fd : FuncData} {k : Nat} (F : Fun K "_law_settings" "_law_settings" sLSettings f fd) : FnOk P w K mg base CX0 (k + 1) f fd ["_law_some"] spSettingsA := by
  refine F.ok scLSettings (fun vs H Q E h => ?_) (fun cdv A outer s H vs Q E hr h => ?_)
  · obtain ⟨v, c, rfl, _⟩ := h
    rfl
  · obtain ⟨v, c, rfl, hv, hc, q⟩ := h
    refine ⟨_, pss_cons (ps_set (i := 1) scLSettings.nd rfl (.inl rfl) (pe_lst (pa_cons (pe_tup pa_nil) pa_nil)))
      (pss_cons (ps_for PassesOwn.never rfl (pi_any (pv 0)) (pg_name (i := 2) scLSettings.nd rfl (.inl rfl))
        (pss_cons (ps_set (i := 3) scLSettings.nd rfl (.inl rfl) (pe_lst pa_nil))
        (pss_cons (ps_for PassesOwn.never rfl (pi_list (pv 1)) (pg_name (i := 4) scLSettings.nd rfl (.inr rfl))
          (pss_one (ps_expr (pe_bm PySem.F.plainAttrs_list PySem.F.slot_list_extend PySem.F.type_list_extend mt_extend (pv 3) (pa_cons (pe_lc (own := [("_law_word", 5)]) (g := gName 5) (tt := tYes) (te := tOp (rCatA K) (tVar 4) (tTup (tCons (tVar 5) tNil))) rfl scLSettings.nd (pi_tup (pv 2)) (blkOk_by (N := nLSettings) (sc := defScope sLSettings) (by decide +kernel))
            (fun _ _ _ _ _ => pg_name (i := 5) scLSettings.nd rfl (.inl rfl)) (fun _ _ _ _ _ => pts_nil) (fun _ _ _ _ _ => pe_op op_catA (pv 4) (pe_tup (pa_cons (pv 5) pa_nil)))) pa_nil)))))
        (pss_one (ps_set (i := 1) scLSettings.nd rfl (.inl rfl) (pv 3))))))
      (pss_one (ps_ret (pv 1)))), ?_⟩
    refine ⟨Nat.zero_le _, fun t0 nt0 => ⟨by show 1 ≤ sizeLine; decide, fun l0 nl0 => ?_⟩⟩
    have s0 : Same H (upd (upd H t0 (.tup [])) l0 (.lst [.ref t0])) := Same.trans (same_upd nt0) (same_upd nl0)
    have nl0H : H l0 = none := (same_upd nt0).free nl0
    have nlt0 : t0 ≠ l0 := fun e => by
      subst e
      rw [upd_same] at nl0
      cases nl0
    rcases hv with hv | hv
    · unfold dC at hv
      cases hv with
      | tup ha hs =>
        rename_i a vs
        have hlen := hs.length
        rw [List.length_map] at hlen
        refine ⟨.ref a, rfl, a, rfl, .inr ⟨⟨vs, SqT.of (s0 _ _ ha)⟩, ?_⟩⟩
        refine for_it (walk_tup (xs := vs)) (fun i σ H3 => ∃ (y2 y3 y4 : Option V) (l : Addr) (us : List V), σ = [some (.ref a), some (.ref l), y2, y3, y4, none] ∧ Same H H3 ∧ H l = none ∧ H3 l = some (.lst us) ∧ RpAll H3 us ((settingsM (c.take i)).map dW)) ?_ ?_ ?_ ?_
        · refine ⟨none, none, none, l0, [.ref t0], rfl, s0, nl0H, upd_same, ?_⟩
          show RpAll _ [.ref t0] [dW []]
          refine .cons (Rp.dW_mk ?_) .nil
          rw [upd_ne nlt0, upd_same]
          rfl
        · rintro i σ H3 _ ⟨y2, y3, y4, l, us, rfl, s3, _⟩
          exact SqT.of (s3 _ _ ha)
        · rintro i x σ H4 H3 hi ⟨y2, y3, y4, l, us, rfl, s3, nl, d3, r3⟩ ⟨rfl, fx⟩
          obtain ⟨d, hd, hx⟩ := hs.get fx
          have hic : i < c.length := by omega
          rw [List.getElem?_map, List.getElem?_eq_getElem hic] at hd
          cases hd
          obtain ⟨b, rfl, hb⟩ := (hx.same s3).dW_inv
          have hlw : c[i].length ≤ 4 := (hc.2 _ (List.getElem_mem hic)).2.1
          have hS := settingsM_len (fun ws hw => (hc.2 ws hw).2.1) i (by omega)
          have h4 := pow43 (i := i) (by have := hc.1; omega)
          have hE := settingsM_each (c := c) i (by omega)
          generalize hss : settingsM (c.take i) = ss at *
          have hlu := r3.length
          rw [List.length_map] at hlu
          have hmul : ss.length * c[i].length ≤ 64 * 4 := Nat.mul_le_mul (by omega) hlw
          refine ⟨Nat.zero_le _, fun lg nlg => ?_⟩
          have nlgH : H lg = none := s3.free nlg
          have sg : Same H3 (upd H3 lg (.lst [])) := same_upd nlg
          refine ⟨.ref l, rfl, l, rfl, ⟨us, SqL.of (sg _ _ d3)⟩, ?_⟩
          refine for_it (walk_list (xs := us)) (fun j σ H5 => ∃ (y4 : Option V) (ts : List V), σ = [some (.ref a), some (.ref l), some (.ref b), some (.ref lg), y4, none] ∧ Same H3 H5 ∧ H5 lg = some (.lst ts) ∧ RpAll H5 ts (((ss.take j).flatMap fun s => c[i].map fun w => s ++ [w]).map dW)) ⟨_, [], rfl, sg, upd_same, .nil⟩ ?_ ?_ ?_
          · rintro j σ H5 _ ⟨y4, ts, rfl, s5, _⟩
            exact SqL.of (s5 _ _ d3)
          · rintro j x σ H6 H5 hj ⟨y4, ts, rfl, s5, d5, r5⟩ ⟨rfl, fy⟩
            obtain ⟨dd, hdd, hx2⟩ := r3.get fy
            have hjs : j < ss.length := by omega
            rw [List.getElem?_map, List.getElem?_eq_getElem hjs] at hdd
            cases hdd
            obtain ⟨g, rfl, hg⟩ := hx2.dW_inv
            refine ⟨.ref lg, rfl, .inl ⟨rfl, _, SqL.of d5⟩, .ref b, rfl, b, rfl, ⟨_, SqT.of (s5 _ _ hb)⟩, fun D nD => ?_⟩
            have nD3 : H3 D = none := s5.free nD
            refine lc_it (walk_tup (xs := c[i].map V.str)) (fun m H7 => ∃ zs : List V, Same H5 H7 ∧ H7 D = some (.lst zs) ∧ RpAll H7 zs (((c[i].take m).map fun w => ss[j] ++ [w]).map dW)) ⟨[], same_upd nD, upd_same, .nil⟩ ?_ ?_ ?_
            · rintro m H7 _ ⟨zs, s7, _⟩
              exact SqT.of (s7 _ _ (s5 _ _ hb))
            · rintro m x H8 H7 hm ⟨zs, s7, d7, r7⟩ ⟨rfl, fz⟩
              rw [List.length_map] at hm
              rw [List.getElem?_map, List.getElem?_eq_getElem hm] at fz
              cases fz
              have hts := r7.length
              rw [List.length_map, List.length_map, List.length_take] at hts
              have e1 : (c[i].take (m + 1)).map (fun w => ss[j] ++ [w]) = (c[i].take m).map (fun w => ss[j] ++ [w]) ++ [ss[j] ++ [c[i][m]]] := by
                rw [List.take_succ_eq_append_getElem hm, List.map_append]
                rfl
              refine ⟨rfl, .ref g, rfl, .str c[i][m], rfl, by show 1 ≤ sizeLine; decide, fun p np => ?_⟩
              have sp : Same H7 (upd H7 p (.tup [.str c[i][m]])) := same_upd np
              refine ⟨g, p, ss[j].map V.str, [.str c[i][m]], rfl, rfl, SqT.of (sp _ _ (s7 _ _ (s5 _ _ hg))), SqT.of upd_same, ?_, fun e0 => ?_, (fun _ e => nomatch e), fun e0 _ => fun p2 np2 => ?_⟩
              · have hej := hE _ (List.getElem_mem hjs)
                have := hc.1
                rw [List.length_map, hej]
                exact sz _ (by simp; omega)
              · have hs0 : ss[j] = [] := by simpa using e0
                have d8 := sp _ _ d7
                refine ⟨zs, d8, small1000 (by omega), zs ++ [.ref p], fun a o e => ?_, upd_same, ?_⟩
                · rw [upd_ne (fun z => by subst z; rw [nD] at e; cases e)]
                  exact sp _ _ (s7 _ _ e)
                · rw [e1]
                  refine RpAll.snoc d8 (r7.same sp) ?_
                  rw [hs0]
                  exact upd_same
              · have sp2 := Same.trans sp (same_upd (o := .tup (ss[j].map V.str ++ [.str c[i][m]])) np2)
                have d8 := sp2 _ _ d7
                refine ⟨zs, d8, small1000 (by omega), zs ++ [.ref p2], fun a o e => ?_, upd_same, ?_⟩
                · rw [upd_ne (fun z => by subst z; rw [nD] at e; cases e)]
                  exact sp2 _ _ (s7 _ _ e)
                · rw [e1]
                  refine RpAll.snoc d8 (r7.same sp2) ?_
                  rw [List.map_append]
                  exact upd_same
            · rintro H7 ⟨zs, s7, d7, r7⟩
              rw [List.length_map, List.take_length] at r7
              have d8 := s7 _ _ d5
              have hz := r7.length
              have ht := r5.length
              have hfl := flat_len_le ss c[i] j
              rw [List.length_map, List.length_map] at hz
              rw [List.length_map] at ht
              have kT : KeepT H7 (upd H7 lg (.lst (ts ++ zs))) := keepT_lst d8
              refine ⟨lg, D, ts, zs, rfl, rfl, d8, d7, sz _ (by omega), some (.ref g), ts ++ zs, rfl, fun a o e => ?_, upd_same, ?_⟩
              · rw [upd_ne (fun z => by subst z; rw [nlg] at e; cases e)]
                exact s7 _ _ (s5 _ _ e)
              · rw [flat_succ _ _ _ hjs, List.map_append]
                exact ((r5.same s7).keep kT (immAll_map imm_dW _)).append (r7.keep kT (immAll_map imm_dW _))
          · rintro σ H5 ⟨y4, ts, rfl, s5, d5, r5⟩
            refine ⟨.ref lg, rfl, some (.ref b), some (.ref lg), y4, lg, ts, rfl, Same.trans s3 s5, nlgH, d5, ?_⟩
            rw [settingsM_succ c i hic, hss]
            rw [hlu, List.take_length] at r5
            exact r5
        · rintro σ H3 ⟨y2, y3, y4, l, us, rfl, s3, nl, d3, r3⟩
          rw [hlen, List.take_length] at r3
          exact ⟨.ref l, rfl, q _ _ s3 nl (.lst d3 r3)⟩
    · cases hv with
      | lst ha hs =>
        rename_i a vs
        have hlen := hs.length
        rw [List.length_map] at hlen
        refine ⟨.ref a, rfl, a, rfl, .inl ⟨⟨vs, SqL.of (s0 _ _ ha)⟩, ?_⟩⟩
        refine for_it (walk_list (xs := vs)) (fun i σ H3 => ∃ (y2 y3 y4 : Option V) (l : Addr) (us : List V), σ = [some (.ref a), some (.ref l), y2, y3, y4, none] ∧ Same H H3 ∧ H l = none ∧ H3 l = some (.lst us) ∧ RpAll H3 us ((settingsM (c.take i)).map dW)) ?_ ?_ ?_ ?_
        · refine ⟨none, none, none, l0, [.ref t0], rfl, s0, nl0H, upd_same, ?_⟩
          show RpAll _ [.ref t0] [dW []]
          refine .cons (Rp.dW_mk ?_) .nil
          rw [upd_ne nlt0, upd_same]
          rfl
        · rintro i σ H3 _ ⟨y2, y3, y4, l, us, rfl, s3, _⟩
          exact SqL.of (s3 _ _ ha)
        · rintro i x σ H4 H3 hi ⟨y2, y3, y4, l, us, rfl, s3, nl, d3, r3⟩ ⟨rfl, fx⟩
          obtain ⟨d, hd, hx⟩ := hs.get fx
          have hic : i < c.length := by omega
          rw [List.getElem?_map, List.getElem?_eq_getElem hic] at hd
          cases hd
          obtain ⟨b, rfl, hb⟩ := (hx.same s3).dW_inv
          have hlw : c[i].length ≤ 4 := (hc.2 _ (List.getElem_mem hic)).2.1
          have hS := settingsM_len (fun ws hw => (hc.2 ws hw).2.1) i (by omega)
          have h4 := pow43 (i := i) (by have := hc.1; omega)
          have hE := settingsM_each (c := c) i (by omega)
          generalize hss : settingsM (c.take i) = ss at *
          have hlu := r3.length
          rw [List.length_map] at hlu
          have hmul : ss.length * c[i].length ≤ 64 * 4 := Nat.mul_le_mul (by omega) hlw
          refine ⟨Nat.zero_le _, fun lg nlg => ?_⟩
          have nlgH : H lg = none := s3.free nlg
          have sg : Same H3 (upd H3 lg (.lst [])) := same_upd nlg
          refine ⟨.ref l, rfl, l, rfl, ⟨us, SqL.of (sg _ _ d3)⟩, ?_⟩
          refine for_it (walk_list (xs := us)) (fun j σ H5 => ∃ (y4 : Option V) (ts : List V), σ = [some (.ref a), some (.ref l), some (.ref b), some (.ref lg), y4, none] ∧ Same H3 H5 ∧ H5 lg = some (.lst ts) ∧ RpAll H5 ts (((ss.take j).flatMap fun s => c[i].map fun w => s ++ [w]).map dW)) ⟨_, [], rfl, sg, upd_same, .nil⟩ ?_ ?_ ?_
          · rintro j σ H5 _ ⟨y4, ts, rfl, s5, _⟩
            exact SqL.of (s5 _ _ d3)
          · rintro j x σ H6 H5 hj ⟨y4, ts, rfl, s5, d5, r5⟩ ⟨rfl, fy⟩
            obtain ⟨dd, hdd, hx2⟩ := r3.get fy
            have hjs : j < ss.length := by omega
            rw [List.getElem?_map, List.getElem?_eq_getElem hjs] at hdd
            cases hdd
            obtain ⟨g, rfl, hg⟩ := hx2.dW_inv
            refine ⟨.ref lg, rfl, .inl ⟨rfl, _, SqL.of d5⟩, .ref b, rfl, b, rfl, ⟨_, SqT.of (s5 _ _ hb)⟩, fun D nD => ?_⟩
            have nD3 : H3 D = none := s5.free nD
            refine lc_it (walk_tup (xs := c[i].map V.str)) (fun m H7 => ∃ zs : List V, Same H5 H7 ∧ H7 D = some (.lst zs) ∧ RpAll H7 zs (((c[i].take m).map fun w => ss[j] ++ [w]).map dW)) ⟨[], same_upd nD, upd_same, .nil⟩ ?_ ?_ ?_
            · rintro m H7 _ ⟨zs, s7, _⟩
              exact SqT.of (s7 _ _ (s5 _ _ hb))
            · rintro m x H8 H7 hm ⟨zs, s7, d7, r7⟩ ⟨rfl, fz⟩
              rw [List.length_map] at hm
              rw [List.getElem?_map, List.getElem?_eq_getElem hm] at fz
              cases fz
              have hts := r7.length
              rw [List.length_map, List.length_map, List.length_take] at hts
              have e1 : (c[i].take (m + 1)).map (fun w => ss[j] ++ [w]) = (c[i].take m).map (fun w => ss[j] ++ [w]) ++ [ss[j] ++ [c[i][m]]] := by
                rw [List.take_succ_eq_append_getElem hm, List.map_append]
                rfl
              refine ⟨rfl, .ref g, rfl, .str c[i][m], rfl, by show 1 ≤ sizeLine; decide, fun p np => ?_⟩
              have sp : Same H7 (upd H7 p (.tup [.str c[i][m]])) := same_upd np
              refine ⟨g, p, ss[j].map V.str, [.str c[i][m]], rfl, rfl, SqT.of (sp _ _ (s7 _ _ (s5 _ _ hg))), SqT.of upd_same, ?_, fun e0 => ?_, (fun _ e => nomatch e), fun e0 _ => fun p2 np2 => ?_⟩
              · have hej := hE _ (List.getElem_mem hjs)
                have := hc.1
                rw [List.length_map, hej]
                exact sz _ (by simp; omega)
              · have hs0 : ss[j] = [] := by simpa using e0
                have d8 := sp _ _ d7
                refine ⟨zs, d8, small1000 (by omega), zs ++ [.ref p], fun a o e => ?_, upd_same, ?_⟩
                · rw [upd_ne (fun z => by subst z; rw [nD] at e; cases e)]
                  exact sp _ _ (s7 _ _ e)
                · rw [e1]
                  refine RpAll.snoc d8 (r7.same sp) ?_
                  rw [hs0]
                  exact upd_same
              · have sp2 := Same.trans sp (same_upd (o := .tup (ss[j].map V.str ++ [.str c[i][m]])) np2)
                have d8 := sp2 _ _ d7
                refine ⟨zs, d8, small1000 (by omega), zs ++ [.ref p2], fun a o e => ?_, upd_same, ?_⟩
                · rw [upd_ne (fun z => by subst z; rw [nD] at e; cases e)]
                  exact sp2 _ _ (s7 _ _ e)
                · rw [e1]
                  refine RpAll.snoc d8 (r7.same sp2) ?_
                  rw [List.map_append]
                  exact upd_same
            · rintro H7 ⟨zs, s7, d7, r7⟩
              rw [List.length_map, List.take_length] at r7
              have d8 := s7 _ _ d5
              have hz := r7.length
              have ht := r5.length
              have hfl := flat_len_le ss c[i] j
              rw [List.length_map, List.length_map] at hz
              rw [List.length_map] at ht
              have kT : KeepT H7 (upd H7 lg (.lst (ts ++ zs))) := keepT_lst d8
              refine ⟨lg, D, ts, zs, rfl, rfl, d8, d7, sz _ (by omega), some (.ref g), ts ++ zs, rfl, fun a o e => ?_, upd_same, ?_⟩
              · rw [upd_ne (fun z => by subst z; rw [nlg] at e; cases e)]
                exact s7 _ _ (s5 _ _ e)
              · rw [flat_succ _ _ _ hjs, List.map_append]
                exact ((r5.same s7).keep kT (immAll_map imm_dW _)).append (r7.keep kT (immAll_map imm_dW _))
          · rintro σ H5 ⟨y4, ts, rfl, s5, d5, r5⟩
            refine ⟨.ref lg, rfl, some (.ref b), some (.ref lg), y4, lg, ts, rfl, Same.trans s3 s5, nlgH, d5, ?_⟩
            rw [settingsM_succ c i hic, hss]
            rw [hlu, List.take_length] at r5
            exact r5
        · rintro σ H3 ⟨y2, y3, y4, l, us, rfl, s3, nl, d3, r3⟩
          rw [hlen, List.take_length] at r3
          exact ⟨.ref l, rfl, q _ _ s3 nl (.lst d3 r3)⟩
end
end Sg

namespace PySem
open Sem (wp)
open AutoSeq1 (wpAny_loadPart')
theorem sg_enumT (l : Addr) (its : Array Value) (n : Nat) (dct : Option Addr) (sl : Array (Option Value)) :
    Meets (Builtin.«enumerate.__new__» ⟨[.type "enumerate", .ref l], []⟩) (fun _ R s => s.heap.get? l = some { cls := .type "tuple", dict := dct, data := .seq its n, slots := sl } ∧
      R (.ok (.ret (.ref (s.heap.push { cls := .type "tuple_iterator", data := .fields #[.ref l, .int 0 0] }).objs.size)))
        { s with heap := (s.heap.push { cls := .type "tuple_iterator", data := .fields #[.ref l, .int 0 0] }).push { cls := .type "enumerate", data := .fields #[.none, .bool false, .ref s.heap.objs.size, rawInt 0, .none, .none] } }) := by
  refine .of_wp fun prog w A R s h => ?_
  obtain ⟨hp, g, d, tk, os⟩ := s
  obtain ⟨hl, h⟩ := h
  have hsub := sub_enumerate
  have hT : Heap.IsTuple (Shared.heap ⟨hp, g, d, tk, os⟩) l its := ⟨_, hl, rfl, n, rfl⟩
  wp_walk using wpAny_loadPart' hl
  refine wpAny_stack_any fun st => wpAny_pure ?_
  split
  · rename_i c _ _ _ _ _
    cases (c == Value.type "enumerate")
    · wp_walk using wpAny_loadPart' hl, wpAny_pyIter_tuple hT
      exact ⟨_, rfl, h⟩
    · wp_walk using wpAny_loadPart' hl, wpAny_pyIter_tuple hT
      exact ⟨_, rfl, h⟩
  · wp_walk using wpAny_loadPart' hl, wpAny_pyIter_tuple hT
    exact ⟨_, rfl, h⟩
section
variable {prog : Program} {w : World} {A : Around} {E : Value → Shared → Prop} {s : Shared}
theorem sg_call_enumT {l : Addr} {its : Array Value} {Q : Value → Shared → Prop} (hL : s.heap.IsTuple l its)
    (h : ∀ h', IsEnum h' (s.heap.objs.size + 1) s.heap.objs.size 0 .none → h'.IsTupleIter s.heap.objs.size l 0 → h'.objs.size = s.heap.objs.size + 2 →
      (∀ b o, s.heap.get? b = some o → h'.get? b = some o) → Q (.ref (s.heap.objs.size + 1)) { s with heap := h' }) :
    wpAny (model prog w) A (call (.type "enumerate") [.ref l]) Q E s := by
  obtain ⟨⟨c, dct, dt, sl⟩, hl, hc, n, hd⟩ := hL
  simp only at hc hd
  subst hc hd
  refine callType_new F.called_enumerate (by decide) (F.typeCall_enumerate_1 _) (F.newCall_enumerate_1 _) (fun obj => F.args_object_init_2 obj _) F.entry_enumerate_new (sg_enumT l its n dct sl) ⟨hl, ?_⟩
  have hz : (s.heap.push { cls := .type "tuple_iterator", data := .fields #[.ref l, .int 0 0] }).objs.size = s.heap.objs.size + 1 := Heap.size_push ..
  have he : IsEnum ((s.heap.push { cls := .type "tuple_iterator", data := .fields #[.ref l, .int 0 0] }).push { cls := .type "enumerate", data := .fields #[.none, .bool false, .ref s.heap.objs.size, rawInt 0, .none, .none] }) (s.heap.objs.size + 1) s.heap.objs.size 0 .none := by
    have e := Heap.get?_push_size (s.heap.push { cls := .type "tuple_iterator", data := .fields #[.ref l, .int 0 0] }) (o := { cls := .type "enumerate", data := .fields #[.none, .bool false, .ref s.heap.objs.size, rawInt 0, .none, .none] }) rfl
    rw [hz] at e
    exact e
  show _ ∧ _
  rw [hz]
  exact ⟨⟨_, he, rfl⟩, h _ he ⟨_, Heap.get?_push_of_some _ (Heap.get?_push_size _ rfl), rfl, rfl⟩ (by rw [Heap.size_push, hz]) fun b o x => Heap.get?_push_of_some _ (Heap.get?_push_of_some _ x)⟩
end
end PySem

namespace Sg
open PySem PySem.Spec PyProof.Rows L2
/-! ### enumerate(tuple) -/
def IteT (K : PySem.W.Frag) (a : Addr) : It :=
  ⟨fun i H => ∃ (xs : List V) (x : V), SqT K H a xs ∧ xs[i]? = some x,
    fun i H v H' => ∃ T x, v = .ref T ∧ H T = none ∧ H' = upd H T (.tup [.int (i : Nat), x]) ∧ ∀ xs, SqT K H a xs → xs[i]? = some x,
    fun i H => ∃ xs : List V, SqT K H a xs ∧ xs.length = i⟩
theorem apart {h : Heap} {a b : Addr} {o o' : Obj} (ha : h.get? a = some o) (hb : h.get? b = some o') (hc : o.cls ≠ o'.cls) : a ≠ b := fun e => by
  subst e
  rw [ha] at hb
  cases hb
  exact hc rfl
theorem turn_enumT {P : Program} {w : World} {K : PySem.W.Frag} {elts : List Expr} {kk : Nat} {tpos : Pos} (a e it : Addr) :
    Turn P w K (.Tuple elts kk tpos) (IteT K a) [e, it] e (fun i h => (∃ old, IsEnum h e it ((i : Nat) : Int) old) ∧ h.IsTupleIter it a i ∧ e ≠ it) where
  mem := by simp
  obj := fun i h st b hb => by
    obtain ⟨⟨old, he⟩, ⟨o, ho, hc, hd⟩, _⟩ := st
    rcases (show b = e ∨ b = it by simpa using hb) with z | z
    · rw [z]
      exact ⟨_, he, fun v q => nomatch q⟩
    · rw [z]
      exact ⟨o, ho, fun v q => by rw [hd] at q; cases q⟩
  keep := fun i h h' st k => by
    obtain ⟨⟨old, he⟩, hi, hne⟩ := st
    exact ⟨⟨old, k e (by simp) _ he⟩, hi.at fun o q => k it (by simp) o q, hne⟩
  item := by
    intro X hP hw hK hc i pins s σ H E I hf st hg
    subst hP hw hK
    obtain ⟨⟨old, he⟩, hit, hne⟩ := st
    obtain ⟨xs, x, hq, hx⟩ := hg
    obtain ⟨its, rv, p, hz⟩ := I.tuple hq
    obtain ⟨u, hu, ru⟩ := rv.get hx
    have hel : e < s.heap.objs.size := Heap.lt_size he
    have hil : it < s.heap.objs.size := by
      obtain ⟨_, q, _⟩ := hit
      exact Heap.lt_size q
    have hai : a ≠ it := by
      obtain ⟨o, ho, hco, _⟩ := p
      obtain ⟨o2, ho2, hco2, _⟩ := hit
      exact apart ho ho2 (by rw [hco, hco2]; decide)
    have hae : a ≠ e := by
      obtain ⟨o, ho, hco, _⟩ := p
      exact apart ho he (by rw [hco]; show Value.type "tuple" ≠ Value.type "enumerate"; decide)
    have hl : i < its.toArray.size := by
      rw [List.size_toArray]
      exact (List.getElem?_eq_some_iff.mp hu).1
    refine wpAny_pyNext_enum_itemD (Draws.tuple (A := X.A.in1) (show X.A.in1.handled = none from I.ok.hd hc) it a hai its.toArray) he ⟨hit, p⟩ hl hne (by simp; exact ⟨hne, fun z => hae z.symm⟩) fun x' h' tk hp ho hst hT hsz hk => ?_
    have hxu : x' = u := by
      have e1 : its.toArray[i]? = some x' := hp
      rw [List.getElem?_toArray, hu] at e1
      exact (Option.some.inj e1).symm
    subst hxu
    refine ⟨_, rfl, wpAny_letOwnedTupleGo_enum (s := { s with heap := h', toks := tk + 1 }) ho fun h'' he' sb => ?_⟩
    have hT2 : h''.get? s.heap.objs.size = some { cls := .type "tuple", data := .seq #[.int i tk, x'] } := (sb.2 _ (Nat.ne_of_gt hel)).trans hT
    have new : ObjOk X.prog X.w (upd H s.heap.objs.size (.tup [.int (i : Nat), x])) h'' s.heap.objs.size (.tup [.int (i : Nat), x]) :=
      ⟨by show 2 ≤ sizeLine; decide, [.int i tk, x'], .cons ⟨_, rfl⟩ (.cons ru .nil), ⟨_, hT2, rfl, _, rfl⟩⟩
    have I1 : Inv X pins σ (upd H s.heap.objs.size (.tup [.int (i : Nat), x])) { s with heap := h'', toks := tk + 1 } :=
      I.turnedNew (ch := [e, it]) (fun b ob hb q => (sb.2 b (fun z => hb (by simp [z]))).trans (hk b ob (fun z => hb (by simp [z])) (fun z => hb (by simp [z])) q)) hf (Nat.le_refl _) new
    refine ⟨.ref s.heap.objs.size, _, I1, rfl, ⟨_, x, rfl, I.hok.fresh (Nat.le_refl _), rfl, fun ys hy => by rw [I.tuple_inj hy hq]; exact hx⟩, ⟨⟨x', ?_⟩, hst.1.at fun o q => (sb.2 it (Ne.symm hne)).trans q, hne⟩, fun b hb => ?_⟩
    · have e1 : ((i + 1 : Nat) : Int) = (i : Int) + 1 := by omega
      rw [e1]
      exact he'
    · have hb' : b < s.heap.objs.size := by
        rcases (show b = e ∨ b = it by simpa using hb) with z | z
        · rw [z]
          exact hel
        · rw [z]
          exact hil
      rw [upd_ne (Nat.ne_of_lt hb')]
      exact (hf b hb).1
  done := by
    intro X hP hw hK hc i pins s σ H E I hf st hg
    subst hP hw hK
    obtain ⟨⟨old, he⟩, hit, hne⟩ := st
    obtain ⟨xs, hq, hx⟩ := hg
    obtain ⟨its, rv, p, hz⟩ := I.tuple hq
    obtain ⟨f0, f1, f2, f3, f4, f5⟩ := hf it (by simp)
    have hl := rv.length
    have hai : a ≠ it := by
      obtain ⟨o, ho, hco, _⟩ := p
      obtain ⟨o2, ho2, hco2, _⟩ := hit
      exact apart ho ho2 (by rw [hco, hco2]; decide)
    have hsz : its.toArray.size = i := by rw [List.size_toArray]; omega
    refine wpAny_pyNext_enum_endD (Draws.tuple (A := X.A.in1) (show X.A.in1.handled = none from I.ok.hd hc) it a hai its.toArray) he ⟨by rw [hsz]; exact hit, p⟩ fun h' eb => ⟨rfl, I.turned (t' := s.toks) (fun b o hb q => eb b o hb q) f0 f1 f3 f4 f5⟩
  self := fun A i s Q E st h => let ⟨⟨_, he⟩, _⟩ := st; wpAny_pyIter_enum he h
def iEnumT (K : PySem.W.Frag) (ta : TA) : TI := fun σ H R => ta σ H fun vs H1 => ∃ a xs, vs = [.ref a] ∧ SqT K H1 a xs ∧ R (IteT K a) H1
theorem pi_enumT {X : Cx} {e : Expr} {ta : TA} {p pos tpos : Pos} {elts : List Expr} {kk : Nat} (hg : Gl X "enumerate") (hm : X.mg "enumerate" = none) (ha : PA X [e] ta) (hs : starEach [e] X.env = [(false, eval e X.env)] := by rfl) :
    PI X (.Tuple elts kk tpos) (.Call (.Name "enumerate" p) [e] [] pos) (iEnumT X.K ta) := by
  refine ⟨fun pins s σ H R I h => ?_⟩
  refine Call_ (ld_blt I hg hm boot_enumerate (PyProof.Rows.callWith_type1 (thn (ha.run pos pins s σ H _ I h) fun us s1 ⟨vs, H1, I1, r1, q1⟩ => ?_) hs rfl))
  obtain ⟨a, xs, ex, hq, q⟩ := q1
  subst ex
  cases r1 with
  | cons r rr =>
    cases rr
    cases r
    obtain ⟨its, rv, p', hz⟩ := I1.tuple hq
    refine sg_call_enumT p' fun h' he hit hsz hk => wpAny_pyIter_enum he ?_
    have I2 : Inv X pins σ H1 { s1 with heap := h' } := I1.kept (t' := s1.toks) hk
    refine ⟨s1.heap.objs.size + 1, [s1.heap.objs.size + 1, s1.heap.objs.size], _, _, H1, rfl, I2, turn_enumT a (s1.heap.objs.size + 1) s1.heap.objs.size, ⟨⟨.none, he⟩, hit, Nat.succ_ne_self _⟩, fun b hb => ?_, q⟩
    have hle : s1.heap.objs.size ≤ b := by
      rcases (show b = s1.heap.objs.size + 1 ∨ b = s1.heap.objs.size by simpa using hb) with z | z
      · rw [z]
        exact Nat.le_add_right _ _
      · rw [z]
        exact Nat.le_refl _
    exact I1.fpOk hle (I1.hok.fresh hle)
theorem walk_enumT {K : PySem.W.Frag} {a : Addr} {xs : List V} : Walk (IteT K a) xs.length (fun H => SqT K H a xs) (YPair (fun i => some (.int (i : Nat))) (fun i => xs[i]?)) := by
  refine ⟨fun i _ hi q => ⟨xs, xs[i], q, by simp [hi]⟩, fun _ q => ⟨xs, q, rfl⟩, fun i H v H' _ q y => ?_⟩
  obtain ⟨T, x, h1, h2, h3, h4⟩ := y
  exact ⟨T, .int (i : Nat), x, h1, h2, h3, rfl, h4 xs q⟩
end Sg

namespace Sg
open PySem PySem.Spec PyProof.Rows L2
abbrev sCommon : Stmt := topS 7
abbrev nCommon : List Str := ["one", "other", "shared", "words", "others"]
theorem scCommon : FnScope nCommon ["one", "other"] (defScope sCommon) := ⟨rfl, rfl, rfl, by decide +kernel, rfl, by decide +kernel, by decide +kernel⟩
abbrev sWithout : Stmt := topS 8
abbrev nWithout : List Str := ["one", "other", "shared", "cases", "at", "words", "alone", "word"]
theorem scWithout : FnScope nWithout ["one", "other"] (defScope sWithout) := ⟨rfl, rfl, rfl, by decide +kernel, rfl, by decide +kernel, by decide +kernel⟩
theorem hu65 {k : Nat} {A : Around} (r : Room k A) : A.units + 65 < cLine := by
  have := r.un
  omega
/-! ### the mathematics -/
def bothsM (c d : List (List Str)) : List (List Str) := List.zipWith (fun ws os => ws.filter (isIn os)) c d
def commonM (c d : List (List Str)) : Option (List (List Str)) := if (bothsM c d).any (·.isEmpty) = true then none else some (bothsM c d)
def dO : Option (List (List Str)) → PyData
  | none => .none
  | some b => dC b
def minusM (ws os : List Str) : List Str := ws.filter fun w => !isIn os w
def pieceM (b c d : List (List Str)) (i : Nat) : List (List (List Str)) := if (minusM (c.getD i []) (d.getD i [])).isEmpty = true then [] else [b.take i ++ minusM (c.getD i []) (d.getD i []) :: c.drop (i + 1)]
def withoutM (c d : List (List Str)) : List (List (List Str)) := match commonM c d with
  | none => [c]
  | some b => (List.range c.length).flatMap (pieceM b c d)
theorem boths_len (c d : List (List Str)) (h : c.length = d.length) : (bothsM c d).length = c.length := by
  unfold bothsM
  rw [List.length_zipWith]
  omega
theorem boths_wd {c d : List (List Str)} (hc : COk c) : ∀ ws ∈ bothsM c d, ws.length ≤ 4 ∧ ∀ x ∈ ws, Wd x := by
  intro ws hw
  unfold bothsM at hw
  obtain ⟨i, hi, e⟩ := List.getElem_of_mem hw
  rw [List.getElem_zipWith] at e
  subst e
  have hc1 := hc.2 _ (List.getElem_mem (show i < c.length by rw [List.length_zipWith] at hi; omega))
  exact ⟨Nat.le_trans (List.length_filter_le _ _) hc1.2.1, fun x hx => hc1.2.2 x (List.mem_filter.mp hx).1⟩
theorem zipTake (c d : List (List Str)) (i : Nat) (h1 : i < c.length) (h2 : i < d.length) : bothsM (c.take (i + 1)) (d.take (i + 1)) = bothsM (c.take i) (d.take i) ++ [c[i].filter (isIn d[i])] := by
  unfold bothsM
  rw [List.take_succ_eq_append_getElem h1, List.take_succ_eq_append_getElem h2, List.zipWith_append (by rw [List.length_take, List.length_take]; omega)]
  rfl
theorem any_empty (b : List (List Str)) : ((b.map dW).any fun z => PyData.eqv z (.tuple [])) = b.any (·.isEmpty) := by
  rw [List.any_map]
  congr 1
  funext ws
  show PyData.eqv (.tuple (ws.map .str)) (.tuple []) = ws.isEmpty
  rw [eqv_nil_t]
  cases ws <;> rfl
theorem range_flat {α : Type} (f : Nat → List α) (i : Nat) : (List.range (i + 1)).flatMap f = (List.range i).flatMap f ++ f i := by
  rw [List.range_succ, List.flatMap_append, List.flatMap_cons, List.flatMap_nil, List.append_nil]
theorem cut_take (xs : List V) (i : Nat) (h : i ≤ xs.length) : cutV xs none (some (i : Int)) = xs.take i := by
  unfold cutV
  rw [show HT.sIx xs.length 0 none = 0 from rfl, HT.sIx_nat, List.drop_zero, Nat.sub_zero, Nat.min_eq_left h]
theorem cut_drop (xs : List V) (i : Nat) (h : i ≤ xs.length) : cutV xs (some (i : Int)) none = xs.drop i := by
  unfold cutV
  rw [show HT.sIx xs.length xs.length none = xs.length from rfl, HT.sIx_nat, Nat.min_eq_left h, List.take_of_length_le (by rw [List.length_drop]; omega)]
/-! ### slices and sums of tuples, the address left open -/
theorem slA_use {K : PySem.W.Frag} {H : Hp} {a : Addr} {xs : List V} {lo hi : Option Int} {Q : VK} (ha : H a = some (.tup xs)) (h : ∀ r H', Same H H' → H' r = some (.tup (cutV xs lo hi)) → Q (.ref r) H') : rSlA K (.ref a) lo hi H Q := by
  refine ⟨a, xs, rfl, SqT.of ha, fun hw => h a H (Same.refl H) ?_, fun _ p np => h p _ (same_upd np) upd_same⟩
  unfold cutV
  rw [hw.1, hw.2, List.drop_zero, Nat.sub_zero, List.take_length]
  exact ha
theorem catA_use {K : PySem.W.Frag} {H : Hp} {a b : Addr} {xs ys : List V} {Q : VK} (ha : H a = some (.tup xs)) (hb : H b = some (.tup ys)) (hz : xs.length + ys.length ≤ 1000) (h : ∀ r H', Same H H' → H' r = some (.tup (xs ++ ys)) → Q (.ref r) H') : rCatA K (.ref a) (.ref b) H Q := by
  refine ⟨a, b, xs, ys, rfl, rfl, SqT.of ha, SqT.of hb, sz _ hz, fun e => h b H (Same.refl H) ?_, fun _ e => h a H (Same.refl H) ?_, fun _ _ p np => h p _ (same_upd np) upd_same⟩
  · rw [e, List.nil_append]
    exact hb
  · rw [e, List.append_nil]
    exact ha
section
variable {P : Program} {w : World} {K : PySem.W.Frag} {mg : Str → Option Value} {base : Heap}
def spCommon : Sp := fun vs H Q _ => ∃ (u v : V) (c d : List (List Str)), vs = [u, v] ∧ Rp H u (dC c) ∧ Rp H v (dC d) ∧ COk c ∧ c.length = d.length ∧ ∀ (r : V) (H' : Hp), Same H H' → Rp H' r (dO (commonM c d)) → Q r H'
/-- the test () in shared, and what comes of it -/
theorem in_common {c d : List (List Str)} {p : Addr} {H : Hp} {Q : VK} {tt : TE} (hc : COk c) (hp : Rp H (.ref p) (dC (bothsM c d))) (h : ∀ (r : V) (H' : Hp), Same H H' → Rp H' r (dO (commonM c d)) → Q r H') (e : Addr) (ne : H e = none) :
    rInTD K (.ref e) (.ref p) (upd H e (.tup [])) fun x H' => ∃ k, x = .bl k ∧ if k = true then Q .non H' else ∃ v, some (some (V.ref p)) = some (some v) ∧ Q v H' := by
  have s1 : Same H (upd H e (.tup [])) := same_upd ne
  refine ⟨.tuple [], (bothsM c d).map dW, Rp.dp (.tup upd_same .nil), (hp.same s1).dp, rfl, shaped_of (lay_dC fun ws hw => (boths_wd hc ws hw).2) (Nat.le_trans (dep_dC _) (by decide)), _, rfl, ?_⟩
  rw [any_empty]
  have hcm : commonM c d = if (bothsM c d).any (·.isEmpty) = true then none else some (bothsM c d) := rfl
  refine ite2 (fun z => ?_) (fun z => ?_)
  · rw [if_pos z] at hcm
    exact h _ _ s1 (by rw [hcm]; exact .non)
  · rw [if_neg z] at hcm
    exact ⟨_, rfl, h _ _ s1 (by rw [hcm]; exact hp.same s1)⟩
theorem ok_common {f fB : Addr} {fd fdB : FuncData} {k : Nat} (F : Fun K "common" "common" sCommon f fd) (FB : Fun K "words_in_both" "words_in_both" sBoth fB fdB) (bB : Binds K fdB ["words", "others"] []) (gB : mg "words_in_both" = some (.ref fB)) (mt : mg "tuple" = none) (mz : mg "zip" = none) : FnOk P w K mg base CX0 (k + 2) f fd ["one", "other"] spCommon := by
  have GB : FnOk P w K mg base CX0 (k + 1) fB fdB ["words", "others"] spBoth := ok_both FB mt
  refine F.ok scCommon (fun vs H Q E h => ?_) (fun cdv A outer s H vs Q E hr h => ?_)
  · obtain ⟨u, v, c, d, rfl, _⟩ := h
    rfl
  · obtain ⟨u, v, c, d, rfl, hu, hv, hc, hcd, q⟩ := h
    refine ⟨_, pss_cons (ps_set (i := 2) scCommon.nd rfl (.inl rfl) (pe_tupleOf (by rfl) mt (pe_lc (own := [("words", 3), ("others", 4)]) (g := gTup K 2 (gCons (gName 3) (gCons (gName 4) gNil))) (tt := tYes) (te := tCall spBoth [] E0 (tCons (tVar 3) (tCons (tVar 4) tNil))) rfl scCommon.nd (RZ.pi_zipA (by rfl) mz (pa_cons (pv 0) (pa_cons (pv 1) pa_nil))) (blkOk_by (N := nCommon) (sc := defScope sCommon) (by decide +kernel))
        (fun _ _ _ _ _ => pg_tup rfl (pgs_cons (pg_name (i := 3) scCommon.nd rfl (.inl rfl)) (pgs_cons (pg_name (i := 4) scCommon.nd rfl (.inl rfl)) pgs_nil))) (fun _ _ _ _ _ => pts_nil) (fun _ _ _ _ _ => pe_call GB hr (by rfl) gB FB.kp bB .nil pass0 (pa_cons (pv 3) (pa_cons (pv 4) pa_nil))))))
      (pss_one (ps_ret (pe_ifExp (pt_cmpR (op_inTD (hu65 hr)) (pe_tup pa_nil) (pv 2) rfl) pe_non (pv 2)))), ?_⟩
    unfold dC at hu hv
    cases hu with
    | tup ha hs =>
      rename_i a xs
      cases hv with
      | tup hb ht =>
        rename_i b ys
        have l1 := hs.length
        have l2 := ht.length
        rw [List.length_map] at l1 l2
        refine ⟨.ref a, rfl, .ref b, rfl, a, b, xs, ys, rfl, .inr ⟨SqT.of ha, SqT.of hb, fun D nD => ?_⟩⟩
        refine lc_it (walk_zipT (xs := xs) (ys := ys) rfl) (fun i H3 => ∃ us : List V, Same H H3 ∧ H3 D = some (.lst us) ∧ RpAll H3 us ((bothsM (c.take i) (d.take i)).map dW)) ⟨[], same_upd nD, upd_same, .nil⟩ (fun i H3 _ h3 => let ⟨_, s3, _⟩ := h3; ⟨SqT.of (s3 _ _ ha), SqT.of (s3 _ _ hb)⟩) ?_ ?_
        · rintro i x H3 H4 hi ⟨us, s3, d3, r3⟩ ⟨T2, x1, x2, rfl, nT2, rfl, f1, f2⟩
          have hi1 : i < c.length := by omega
          have hi2 : i < d.length := by omega
          obtain ⟨d1, hd1, r1⟩ := hs.get f1
          obtain ⟨d2, hd2, r2⟩ := ht.get f2
          rw [List.getElem?_map, List.getElem?_eq_getElem hi1] at hd1
          rw [List.getElem?_map, List.getElem?_eq_getElem hi2] at hd2
          cases hd1
          cases hd2
          have sT : Same H3 (upd H3 T2 (.tup [x1, x2])) := same_upd nT2
          have hlw : c[i].length ≤ 4 := (hc.2 _ (List.getElem_mem hi1)).2.1
          refine ⟨T2, _, rfl, SqT.of upd_same, rfl, _, _, rfl, _, _, rfl, rfl, rfl, x1, rfl, x2, rfl, x1, x2, c[i], d[i], rfl, r1.same (Same.trans s3 sT), r2.same (Same.trans s3 sT), by omega, fun p H5 s5 e5 => ?_⟩
          have s35 := Same.trans sT s5
          have d5 := s35 _ _ d3
          have hlu := r3.length
          rw [List.length_map, boths_len _ _ (by rw [List.length_take, List.length_take]; omega), List.length_take] at hlu
          refine ⟨us, d5, ?_, us ++ [.ref p], fun z o e => ?_, upd_same, ?_⟩
          · have := hc.1
            exact small1000 (by omega)
          · rw [upd_ne (fun z => by subst z; rw [nD] at e; cases e)]
            exact s35 _ _ (s3 _ _ e)
          · rw [zipTake c d i hi1 hi2]
            exact RpAll.snoc d5 (r3.same s35) e5
        · rintro H3 ⟨us, s3, d3, r3⟩
          rw [show min xs.length ys.length = c.length by omega, List.take_length, hcd, List.take_length] at r3
          refine .inl ⟨D, _, rfl, SqL.of d3, fun p np => ?_⟩
          have s4 := Same.trans s3 (same_upd (o := .tup us) np)
          refine ⟨Nat.zero_le _, fun e ne => ⟨.ref p, rfl, ?_⟩⟩
          exact in_common (tt := tVar 2) hc (.tup upd_same (r3.same (same_upd np))) (fun r H' s' h' => q r H' (Same.trans s4 s') h') e ne
end
end Sg

namespace Sg
open PySem PySem.Spec PyProof.Rows L2
def spWithout : Sp := fun vs H Q _ => ∃ (u v : V) (c d : List (List Str)), vs = [u, v] ∧ Rp H u (dC c) ∧ Rp H v (dC d) ∧ COk c ∧ c.length = d.length ∧ ∀ (p : Addr) (H' : Hp), Same H H' → H p = none → Rp H' (.ref p) (.list ((withoutM c d).map dC)) → Q (.ref p) H'
theorem getD_at {xs : List (List Str)} {i : Nat} (h : i < xs.length) : xs.getD i [] = xs[i] := by
  rw [List.getD, List.getElem?_eq_getElem h]
  rfl
theorem minus_wd {c d : List (List Str)} (hc : COk c) (i : Nat) (hi : i < c.length) : (minusM c[i] (d.getD i [])).length ≤ 4 ∧ ∀ x ∈ minusM c[i] (d.getD i []), Wd x := by
  have h := hc.2 _ (List.getElem_mem hi)
  exact ⟨Nat.le_trans (List.length_filter_le _ _) h.2.1, fun x hx => h.2.2 x (List.mem_filter.mp hx).1⟩
theorem piece_eq (b c d : List (List Str)) (i : Nat) (hi : i < c.length) (hd : i < d.length) : pieceM b c d i = if (minusM c[i] d[i]).isEmpty = true then [] else [b.take i ++ minusM c[i] d[i] :: c.drop (i + 1)] := by
  unfold pieceM
  rw [getD_at hi, getD_at hd]
theorem pieces_len (b c d : List (List Str)) : ∀ i, ((List.range i).flatMap (pieceM b c d)).length ≤ i
  | 0 => Nat.le_refl _
  | i + 1 => by
    rw [range_flat, List.length_append]
    have h1 := pieces_len b c d i
    have h2 : (pieceM b c d i).length ≤ 1 := by
      unfold pieceM
      split
      · exact Nat.zero_le _
      · exact Nat.le_refl _
    omega
theorem RpAll.snocC {H : Hp} {D p : Addr} {us xs : List V} {cs : List (List (List Str))} {c : List (List Str)} (d : H D = some (.lst us)) (h : RpAll H us (cs.map dC)) (hp : H p = some (.tup xs)) (hx : RpAll H xs (c.map dW)) : RpAll (upd H D (.lst (us ++ [.ref p]))) (us ++ [.ref p]) ((cs ++ [c]).map dC) := by
  rw [List.map_append]
  have kT : KeepT H (upd H D (.lst (us ++ [.ref p]))) := keepT_lst d
  exact (h.keep kT (immAll_map imm_dC cs)).append (.cons ((show Rp H (.ref p) (dC c) from .tup hp hx).keep kT (imm_dC c)) .nil)
theorem RpAll.piece {H : Hp} {xs ys : List V} {al : Addr} {b c : List (List Str)} {m : List Str} (i : Nat) (hb : RpAll H xs (b.map dW)) (hc : RpAll H ys (c.map dW)) (hm : H al = some (.tup (m.map V.str))) :
    RpAll H (xs.take i ++ [.ref al] ++ ys.drop (i + 1)) ((b.take i ++ m :: c.drop (i + 1)).map dW) := by
  rw [List.map_append, List.map_cons, List.map_take, List.map_drop, List.append_assoc]
  exact (hb.take i).append (.cons (Rp.dW_mk hm) (hc.drop (i + 1)))
section
variable {P : Program} {w : World} {K : PySem.W.Frag} {mg : Str → Option Value} {base : Heap}
theorem ok_without {f fC fB : Addr} {fd fdC fdB : FuncData} {k : Nat} (F : Fun K "without" "without" sWithout f fd) (FC : Fun K "common" "common" sCommon fC fdC) (bC : Binds K fdC ["one", "other"] []) (gC : mg "common" = some (.ref fC))
    (FB : Fun K "words_in_both" "words_in_both" sBoth fB fdB) (bB : Binds K fdB ["words", "others"] []) (gB : mg "words_in_both" = some (.ref fB)) (mt : mg "tuple" = none) (mz : mg "zip" = none) (me : mg "enumerate" = none) : FnOk P w K mg base CX0 (k + 3) f fd ["one", "other"] spWithout := by
  have GC : FnOk P w K mg base CX0 (k + 2) fC fdC ["one", "other"] spCommon := ok_common FC FB bB gB mt mz
  refine F.ok scWithout (fun vs H Q E h => ?_) (fun cdv A outer s H vs Q E hr h => ?_)
  · obtain ⟨u, v, c, d, rfl, _⟩ := h
    rfl
  · obtain ⟨u, v, c, d, rfl, hu, hv, hc, hcd, q⟩ := h
    refine ⟨_, pss_cons (ps_set (i := 2) scWithout.nd rfl (.inl rfl) (pe_call GC hr (by rfl) gC FC.kp bC .nil pass0 (pa_cons (pv 0) (pa_cons (pv 1) pa_nil))))
      (pss_cons (ps_if (pt_cmpR op_isN (pv 2) pe_non (nomark _)) (pss_one (ps_ret (pe_lst (pa_cons (pv 0) pa_nil)))) pss_nil)
      (pss_cons (ps_set (i := 3) scWithout.nd rfl (.inl rfl) (pe_lst pa_nil))
      (pss_cons (ps_for PassesOwn.never rfl (pi_enumT (by rfl) me (pa_cons (pv 0) pa_nil)) (pg_tup rfl (pgs_cons (pg_name (i := 4) scWithout.nd rfl (.inr rfl)) (pgs_cons (pg_name (i := 5) scWithout.nd rfl (.inl rfl)) pgs_nil)))
        (pss_cons (ps_set (i := 6) scWithout.nd rfl (.inl rfl) (pe_tupleOf (by rfl) mt (pe_lc (own := [("word", 7)]) (g := gName 7) (tt := tTest (tOp (rIn K true) (tVar 7) (tOp (rIxT K) (tVar 1) (tVar 4)))) (te := tVar 7) rfl scWithout.nd (pi_tup (pv 5)) (blkOk_by (N := nWithout) (sc := defScope sWithout) (by decide +kernel))
            (fun _ _ _ _ _ => pg_name (i := 7) scWithout.nd rfl (.inl rfl)) (fun _ _ _ _ _ => pts_one (pt_cmpR op_notIn_seq (pv 7) (pe_ix ix_tup (pv 1) (pv 4) (fun _ _ => rfl)) rfl)) (fun _ _ _ _ _ => pv 7))))
        (pss_one (ps_if (pt_truth (pv 6) (fun _ => rfl)) (pss_one (ps_expr (pe_bm PySem.F.plainAttrs_list PySem.F.slot_list_append PySem.F.type_list_append mt_append (pv 3) (pa_cons (pe_op op_catA (pe_op op_catA (pe_slice sl_tupA (pv 2) po_none (po_some (pv 4))) (pe_tup (pa_cons (pv 6) pa_nil))) (pe_slice sl_tupA (pv 0) (po_some (pe_op op_add (pv 4) pe_int)) po_none)) pa_nil)))) pss_nil))))
      (pss_one (ps_ret (pv 3)))))), ?_⟩
    refine ⟨u, rfl, v, rfl, u, v, c, d, rfl, hu, hv, hc, hcd, fun r H1 s1 hr1 => ?_⟩
    have hw : withoutM c d = match commonM c d with
      | none => [c]
      | some b => (List.range c.length).flatMap (pieceM b c d) := rfl
    cases hcm : commonM c d with
    | none =>
      rw [hcm] at hr1 hw
      cases hr1
      refine ⟨.non, rfl, rfl, _, rfl, ?_⟩
      refine ⟨u, rfl, by show 1 ≤ sizeLine; decide, fun p np => ?_⟩
      refine q _ _ (Same.trans s1 (same_upd np)) (s1.free np) ?_
      rw [hw]
      exact .lst upd_same (.cons (hu.same (Same.trans s1 (same_upd np))) .nil)
    | some bb =>
      rw [hcm] at hr1 hw
      have hu1 := hu.same s1
      have hv1 := hv.same s1
      have hbb : bb.length = c.length := by
        unfold commonM at hcm
        split at hcm
        · cases hcm
        · cases hcm
          exact boths_len c d hcd
      unfold dC at hu1 hv1
      cases hr1 with
      | tup hsh rsh =>
        rename_i sh zs
        cases hu1 with
        | tup ha hs =>
          rename_i a xs
          cases hv1 with
          | tup hb ht =>
            rename_i b ys
            have l1 := hs.length
            have l2 := ht.length
            have l3 := rsh.length
            rw [List.length_map] at l1 l2 l3
            have hc4 := hc.1
            refine ⟨.ref sh, rfl, rfl, _, rfl, ?_⟩
            refine ⟨Nat.zero_le _, fun l nl => ?_⟩
            have nlH : H l = none := s1.free nl
            have sl : Same H1 (upd H1 l (.lst [])) := same_upd nl
            refine ⟨.ref a, rfl, a, xs, rfl, SqT.of (sl _ _ ha), ?_⟩
            refine for_it (walk_enumT (xs := xs)) (fun i σ H3 => ∃ (y4 y5 y6 : Option V) (us : List V), σ = [some (.ref a), some (.ref b), some (.ref sh), some (.ref l), y4, y5, y6, none] ∧ Same H1 H3 ∧ H3 l = some (.lst us) ∧ RpAll H3 us (((List.range i).flatMap (pieceM bb c d)).map dC)) ⟨none, none, none, [], rfl, sl, upd_same, .nil⟩ ?_ ?_ ?_
            · rintro i σ H3 _ ⟨y4, y5, y6, us, rfl, s3, _⟩
              exact SqT.of (s3 _ _ ha)
            · rintro i x σ H3 H4 hi ⟨y4, y5, y6, us, rfl, s3, d3, r3⟩ ⟨T, x1, x2, rfl, nT, rfl, f1, f2⟩
              cases f1
              have hi1 : i < c.length := by omega
              have hi2 : i < d.length := by omega
              obtain ⟨d1, hd1, r1⟩ := hs.get f2
              rw [List.getElem?_map, List.getElem?_eq_getElem hi1] at hd1
              cases hd1
              have sT : Same H3 (upd H3 T (.tup [.int (i : Nat), x2])) := same_upd nT
              have sA := Same.trans s3 sT
              obtain ⟨g, rfl, hg⟩ := (r1.same sA).dW_inv
              have hgd : (d.map dW)[i]? = some (dW d[i]) := by rw [List.getElem?_map, List.getElem?_eq_getElem hi2]; rfl
              obtain ⟨vo, hvo, rvo⟩ := ht.getD hgd
              obtain ⟨go, rfl, hgo⟩ := (rvo.same sA).dW_inv
              have hlw := minus_wd (d := d) hc i hi1
              rw [getD_at hi2] at hlw
              have hcl : c[i].length ≤ 4 := (hc.2 _ (List.getElem_mem hi1)).2.1
              refine ⟨T, _, rfl, SqT.of upd_same, rfl, _, _, rfl, _, _, rfl, rfl, ?_⟩
              refine ⟨.ref g, rfl, g, rfl, ⟨_, SqT.of hg⟩, fun D nD => ?_⟩
              refine filt_lc (fun w => !isIn d[i] w) nD hg (by omega) (fun _ => rfl) (fun _ => rfl) (fun j h H2 Q s2 hq => ?_) (fun H5 s5 d5 => ?_)
              · exact ⟨_, rfl, .ref b, rfl, .int (i : Nat), rfl, b, _, _, .ref go, rfl, rfl, SqT.of (s2 _ _ (sA _ _ hb)), atI_nat hvo, go, _, rfl, .inr (SqT.of (s2 _ _ hgo)), rfl, all_flat _, _, rfl, hq⟩
              · refine .inl ⟨D, _, rfl, SqL.of d5, fun al nal => ?_⟩
                have s6 : Same H3 (upd H5 al (.tup ((c[i].filter fun w => !isIn d[i] w).map V.str))) := Same.trans (Same.trans sT s5) (same_upd nal)
                have e6 : (upd H5 al (.tup ((c[i].filter fun w => !isIn d[i] w).map V.str))) al = some (.tup ((c[i].filter fun w => !isIn d[i] w).map V.str)) := upd_same
                generalize upd H5 al (.tup ((c[i].filter fun w => !isIn d[i] w).map V.str)) = H6 at s6 e6 ⊢
                have e6 : H6 al = some (.tup ((minusM c[i] d[i]).map V.str)) := e6
                refine ⟨.ref al, rfl, _, .inr (.inl ⟨_, SqT.of e6, rfl⟩), ?_⟩
                have hpe := piece_eq bb c d i hi1 hi2
                rw [show ((minusM c[i] d[i]).map V.str).isEmpty = (minusM c[i] d[i]).isEmpty by cases minusM c[i] d[i] <;> rfl]
                have d6 := s6 _ _ d3
                cases hem : (minusM c[i] d[i]).isEmpty with
                | true =>
                  rw [hem, if_pos rfl] at hpe
                  refine ⟨_, _, _, us, rfl, Same.trans s3 s6, d6, ?_⟩
                  rw [range_flat, hpe, List.append_nil]
                  exact r3.same s6
                | false =>
                  rw [hem, if_neg (by decide)] at hpe
                  have s16 := Same.trans s3 s6
                  refine ⟨.ref l, rfl, .inl ⟨rfl, _, SqL.of d6⟩, .ref sh, rfl, .int (i : Nat), rfl, (i : Int), rfl, slA_use (s16 _ _ hsh) fun r1 H7 s7 e7 => ?_⟩
                  rw [cut_take _ _ (by omega)] at e7
                  refine ⟨.ref al, rfl, by show 1 ≤ sizeLine; decide, fun p np => ?_⟩
                  have s8 : Same H6 (upd H7 p (.tup [.ref al])) := Same.trans s7 (same_upd np)
                  refine catA_use (same_upd np _ _ e7) upd_same (by rw [List.length_take]; simp; omega) fun r2 H9 s9 e9 => ?_
                  have s10 := Same.trans s8 s9
                  refine ⟨.ref a, rfl, .int (i : Nat), rfl, (i : Int), 1, rfl, rfl, ((i + 1 : Nat) : Int), rfl, ?_⟩
                  dsimp only [tNoPart]
                  refine slA_use (s10 _ _ (s16 _ _ ha)) fun r3' H11 s11 e11 => ?_
                  rw [cut_drop _ _ (by omega)] at e11
                  have hsz : (xs.drop (i + 1)).length ≤ 4 := by rw [List.length_drop]; omega
                  refine catA_use (s11 _ _ e9) e11 (by rw [List.length_append, List.length_take]; simp; omega) fun r4 H12 s12 e12 => ?_
                  have s6c := Same.trans (Same.trans s10 s11) s12
                  have d12 := s6c _ _ d6
                  have sAll := Same.trans s16 s6c
                  have hlen3 := r3.length
                  rw [List.length_map] at hlen3
                  have hpl := pieces_len bb c d i
                  refine ⟨l, us, _, rfl, rfl, d12, small1000 (by omega), _, _, _, us ++ [.ref r4], rfl, fun z o e => ?_, upd_same, ?_⟩
                  · rw [upd_ne (fun z => by subst z; rw [nl] at e; cases e)]
                    exact sAll _ _ e
                  · rw [range_flat, hpe]
                    exact RpAll.snocC d12 ((r3.same s6).same s6c) e12 (RpAll.piece i (rsh.same sAll) (hs.same sAll) (s6c _ _ e6))
            · rintro σ H3 ⟨y4, y5, y6, us, rfl, s3, d3, r3⟩
              rw [l1] at r3
              exact ⟨.ref l, rfl, q _ _ (Same.trans s1 s3) nlH (by rw [hw]; exact .lst d3 r3)⟩
end
end Sg

namespace Sg
open PySem PySem.Spec PyProof.Rows L2
theorem common_is {c d b : List (List Str)} (h : commonM c d = some b) : b = bothsM c d := by
  unfold commonM at h
  split at h
  · cases h
  · exact (Option.some.inj h).symm
/-! ### which settings a case has -/
def In : List (List Str) → List Str → Prop
  | [], [] => True
  | ws :: c, w :: s => w ∈ ws ∧ In c s
  | [], _ :: _ => False
  | _ :: _, [] => False
theorem In.len : ∀ {c : List (List Str)} {s : List Str}, In c s → s.length = c.length
  | [], [], _ => rfl
  | _ :: _, _ :: _, h => by rw [List.length_cons, List.length_cons, In.len h.2]
  | [], _ :: _, h => h.elim
  | _ :: _, [], h => h.elim
theorem mem_fold : ∀ (c : List (List Str)) (acc : List (List Str)) (s : List Str), s ∈ c.foldl stepM acc ↔ ∃ a ∈ acc, ∃ r, s = a ++ r ∧ In c r
  | [], acc, s => by
    refine ⟨fun h => ⟨s, h, [], by simp, trivial⟩, ?_⟩
    rintro ⟨a, ha, r, e, hr⟩
    cases r with
    | nil => rw [e, List.append_nil]; exact ha
    | cons _ _ => exact hr.elim
  | ws :: c, acc, s => by
    rw [List.foldl_cons, mem_fold c]
    constructor
    · rintro ⟨a, ha, r, e, hr⟩
      unfold stepM at ha
      obtain ⟨b, hb, hm⟩ := List.mem_flatMap.mp ha
      obtain ⟨w, hw1, rfl⟩ := List.mem_map.mp hm
      exact ⟨b, hb, w :: r, by rw [e, List.append_assoc]; rfl, hw1, hr⟩
    · rintro ⟨a, ha, r, e, hr⟩
      cases r with
      | nil => exact hr.elim
      | cons w r =>
        refine ⟨a ++ [w], ?_, r, by rw [e, List.append_assoc]; rfl, hr.2⟩
        unfold stepM
        exact List.mem_flatMap.mpr ⟨a, ha, List.mem_map.mpr ⟨w, hr.1, rfl⟩⟩
theorem mem_settings (c : List (List Str)) (s : List Str) : s ∈ settingsM c ↔ In c s := by
  unfold settingsM
  rw [mem_fold]
  constructor
  · rintro ⟨a, ha, r, e, hr⟩
    rw [List.mem_singleton.mp ha, List.nil_append] at e
    rw [e]
    exact hr
  · exact fun h => ⟨[], List.mem_singleton.mpr rfl, s, rfl, h⟩
theorem isIn_iff (ws : List Str) (w : Str) : isIn ws w = true ↔ w ∈ ws := by
  unfold isIn inV
  rw [List.any_eq_true]
  constructor
  · rintro ⟨v, hv, e⟩
    obtain ⟨x, hx, rfl⟩ := List.mem_map.mp hv
    have : (x == w) = true := e
    rw [← eq_of_beq this]
    exact hx
  · exact fun h => ⟨.str w, List.mem_map.mpr ⟨w, h, rfl⟩, by show (w == w) = true; exact beq_self_eq_true w⟩
theorem mem_both (ws os : List Str) (w : Str) : w ∈ ws.filter (isIn os) ↔ w ∈ ws ∧ w ∈ os := by
  rw [List.mem_filter, isIn_iff]
theorem mem_minus (ws os : List Str) (w : Str) : w ∈ minusM ws os ↔ w ∈ ws ∧ w ∉ os := by
  unfold minusM
  rw [List.mem_filter]
  constructor
  · rintro ⟨h1, h2⟩
    refine ⟨h1, fun h => ?_⟩
    rw [(isIn_iff os w).mpr h] at h2
    cases h2
  · rintro ⟨h1, h2⟩
    refine ⟨h1, ?_⟩
    cases e : isIn os w with
    | false => rfl
    | true => exact absurd ((isIn_iff os w).mp e) h2
theorem in_boths : ∀ (c d : List (List Str)) (s : List Str), c.length = d.length → (In (bothsM c d) s ↔ In c s ∧ In d s)
  | [], [], [], _ => ⟨fun _ => ⟨trivial, trivial⟩, fun _ => trivial⟩
  | [], [], _ :: _, _ => ⟨fun h => h.elim, fun h => h.1.elim⟩
  | ws :: c, os :: d, [], _ => ⟨fun h => h.elim, fun h => h.1.elim⟩
  | ws :: c, os :: d, w :: s, hl => by
    show (w ∈ ws.filter (isIn os) ∧ In (bothsM c d) s) ↔ (w ∈ ws ∧ In c s) ∧ (w ∈ os ∧ In d s)
    rw [mem_both, in_boths c d s (by simpa using hl)]
    constructor
    · rintro ⟨⟨h1, h2⟩, h3, h4⟩
      exact ⟨⟨h1, h3⟩, h2, h4⟩
    · rintro ⟨⟨h1, h3⟩, h2, h4⟩
      exact ⟨⟨h1, h2⟩, h3, h4⟩
  | [], _ :: _, _, hl => by simp at hl
  | _ :: _, [], _, hl => by simp at hl
theorem in_full : ∀ (c : List (List Str)) (s : List Str), In c s → ∀ ws ∈ c, ws ≠ []
  | ws :: c, w :: s, h, xs, hx => by
    rcases List.mem_cons.mp hx with z | z
    · intro e
      rw [z] at e
      rw [e] at h
      cases h.1
    · exact in_full c s h.2 xs z
  | [], _, _, _, hx => by cases hx
  | _ :: _, [], h, _, _ => h.elim
theorem common_in {c d : List (List Str)} (hl : c.length = d.length) (s : List Str) : (∃ b, commonM c d = some b ∧ In b s) ↔ In c s ∧ In d s := by
  rw [← in_boths c d s hl]
  unfold commonM
  by_cases h : (bothsM c d).any (·.isEmpty) = true
  · rw [if_pos h]
    constructor
    · rintro ⟨b, e, _⟩
      cases e
    · intro hs
      obtain ⟨ws, hw, e⟩ := List.any_eq_true.mp h
      exact absurd (List.isEmpty_iff.mp e) (in_full _ _ hs ws hw)
  · rw [if_neg h]
    constructor
    · rintro ⟨b, e, hs⟩
      cases e
      exact hs
    · exact fun hs => ⟨_, rfl, hs⟩
/-! ### without, facet by facet -/
def withoutR : List (List Str) → List (List Str) → List (List (List Str))
  | ws :: c, os :: d => (if (minusM ws os).isEmpty = true then [] else [minusM ws os :: c]) ++ (withoutR c d).map (ws.filter (isIn os) :: ·)
  | _, _ => []
theorem pieces_eq : ∀ (c d : List (List Str)), c.length = d.length → (List.range c.length).flatMap (pieceM (bothsM c d) c d) = withoutR c d
  | [], [], _ => rfl
  | ws :: c, os :: d, hl => by
    have ih := pieces_eq c d (by simpa using hl)
    rw [List.length_cons, List.range_succ_eq_map, List.flatMap_cons, List.flatMap_map]
    show pieceM (bothsM (ws :: c) (os :: d)) (ws :: c) (os :: d) 0 ++ (List.range c.length).flatMap (fun i => pieceM (bothsM (ws :: c) (os :: d)) (ws :: c) (os :: d) (i + 1)) = _
    show _ = (if (minusM ws os).isEmpty = true then [] else [minusM ws os :: c]) ++ (withoutR c d).map (ws.filter (isIn os) :: ·)
    congr 1
    rw [← ih, List.map_flatMap]
    congr 1
    funext i
    unfold pieceM
    show (if (minusM (c.getD i []) (d.getD i [])).isEmpty = true then [] else [(ws.filter (isIn os) :: bothsM c d).take (i + 1) ++ minusM (c.getD i []) (d.getD i []) :: (ws :: c).drop (i + 1 + 1)]) = _
    split
    · rfl
    · rfl
  | [], _ :: _, hl => by simp at hl
  | _ :: _, [], hl => by simp at hl
theorem in_withoutR : ∀ (c d : List (List Str)) (s : List Str), c.length = d.length → ((∃ p ∈ withoutR c d, In p s) ↔ In c s ∧ ¬ In d s)
  | [], [], s, _ => by
    constructor
    · rintro ⟨p, hp, _⟩
      cases hp
    · rintro ⟨h1, h2⟩
      exact absurd h1 h2
  | ws :: c, os :: d, s, hl => by
    have ih := fun s => in_withoutR c d s (by simpa using hl)
    cases s with
    | nil =>
      constructor
      · rintro ⟨p, hp, h⟩
        cases p with
        | nil =>
          rcases List.mem_append.mp hp with z | z
          · split at z
            · cases z
            · cases List.mem_singleton.mp z
          · obtain ⟨q, _, e⟩ := List.mem_map.mp z
            cases e
        | cons _ _ => exact h.elim
      · rintro ⟨h, _⟩
        exact h.elim
    | cons w s =>
      constructor
      · rintro ⟨p, hp, h⟩
        rcases List.mem_append.mp hp with z | z
        · split at z
          · cases z
          · rw [List.mem_singleton.mp z] at h
            obtain ⟨h1, h2⟩ := (mem_minus ws os w).mp h.1
            exact ⟨⟨h1, h.2⟩, fun g => h2 g.1⟩
        · obtain ⟨q, hq, rfl⟩ := List.mem_map.mp z
          obtain ⟨h1, h2⟩ := (mem_both ws os w).mp h.1
          obtain ⟨g1, g2⟩ := (ih s).mp ⟨q, hq, h.2⟩
          exact ⟨⟨h1, g1⟩, fun g => g2 g.2⟩
      · rintro ⟨⟨h1, h2⟩, h3⟩
        by_cases ho : w ∈ os
        · obtain ⟨q, hq, hs⟩ := (ih s).mpr ⟨h2, fun g => h3 ⟨ho, g⟩⟩
          exact ⟨_, List.mem_append.mpr (.inr (List.mem_map.mpr ⟨q, hq, rfl⟩)), (mem_both ws os w).mpr ⟨h1, ho⟩, hs⟩
        · have hm := (mem_minus ws os w).mpr ⟨h1, ho⟩
          refine ⟨minusM ws os :: c, List.mem_append.mpr (.inl ?_), hm, h2⟩
          rw [if_neg]
          · exact List.mem_singleton.mpr rfl
          · intro e
            rw [List.isEmpty_iff.mp e] at hm
            cases hm
  | [], _ :: _, _, hl => by simp at hl
  | _ :: _, [], _, hl => by simp at hl
/-- no setting in two of them -/
def Apart (cs : List (List (List Str))) : Prop := cs.Pairwise fun p q => ∀ s, In p s → ¬ In q s
theorem apart_withoutR : ∀ (c d : List (List Str)), Apart (withoutR c d)
  | ws :: c, os :: d => by
    show Apart ((if (minusM ws os).isEmpty = true then [] else [minusM ws os :: c]) ++ (withoutR c d).map (ws.filter (isIn os) :: ·))
    unfold Apart
    rw [List.pairwise_append]
    refine ⟨?_, ?_, ?_⟩
    · split
      · exact .nil
      · exact List.pairwise_singleton _ _
    · rw [List.pairwise_map]
      refine (apart_withoutR c d).imp fun h s hs hq => ?_
      cases s with
      | nil => exact hs.elim
      | cons w s => exact h s hs.2 hq.2
    · intro p hp q hq s hs hs2
      split at hp
      · cases hp
      · rw [List.mem_singleton.mp hp] at hs
        obtain ⟨r, _, rfl⟩ := List.mem_map.mp hq
        cases s with
        | nil => exact hs.elim
        | cons w s => exact ((mem_minus ws os w).mp hs.1).2 ((mem_both ws os w).mp hs2.1).2
  | [], _ => List.Pairwise.nil
  | _ :: _, [] => List.Pairwise.nil
theorem in_without {c d : List (List Str)} (hl : c.length = d.length) (s : List Str) : (∃ p ∈ withoutM c d, In p s) ↔ In c s ∧ ¬ In d s := by
  have hw : withoutM c d = match commonM c d with
    | none => [c]
    | some b => (List.range c.length).flatMap (pieceM b c d) := rfl
  cases hcm : commonM c d with
  | none =>
    rw [hcm] at hw
    have hw : withoutM c d = [c] := hw
    rw [hw]
    have hno : ¬ (In c s ∧ In d s) := fun h => by
      obtain ⟨b, e, _⟩ := (common_in hl s).mpr h
      rw [hcm] at e
      cases e
    constructor
    · rintro ⟨p, hp, h⟩
      rw [List.mem_singleton.mp hp] at h
      exact ⟨h, fun g => hno ⟨h, g⟩⟩
    · exact fun h => ⟨c, List.mem_singleton.mpr rfl, h.1⟩
  | some b =>
    rw [hcm] at hw
    have hb := common_is hcm
    subst hb
    have hw : withoutM c d = (List.range c.length).flatMap (pieceM (bothsM c d) c d) := hw
    rw [hw, pieces_eq c d hl]
    exact in_withoutR c d s hl
theorem apart_without {c d : List (List Str)} (hl : c.length = d.length) : Apart (withoutM c d) := by
  have hw : withoutM c d = match commonM c d with
    | none => [c]
    | some b => (List.range c.length).flatMap (pieceM b c d) := rfl
  cases hcm : commonM c d with
  | none =>
    rw [hcm] at hw
    have hw : withoutM c d = [c] := hw
    rw [hw]
    exact List.pairwise_singleton _ _
  | some b =>
    rw [hcm] at hw
    have hb := common_is hcm
    subst hb
    have hw : withoutM c d = (List.range c.length).flatMap (pieceM (bothsM c d) c d) := hw
    rw [hw, pieces_eq c d hl]
    exact apart_withoutR c d
end Sg

namespace Sg
open PySem PySem.Spec PyProof.Rows L2
/-! ### WHENs -/
inductive Wn where
  | always
  | is (f : Str) (ws : List Str)
  | nt (w : Wn)
  | both (a b : Wn)
  | either (a b : Wn)
def dN : Wn → PyData
  | .always => .tuple [.str (Str.ofString "always")]
  | .is f ws => .tuple [.str (Str.ofString "is"), .str f, dW ws]
  | .nt w => .tuple [.str (Str.ofString "not"), dN w]
  | .both a b => .tuple [.str (Str.ofString "both"), dN a, dN b]
  | .either a b => .tuple [.str (Str.ofString "either"), dN a, dN b]
theorem imm_dN : ∀ w, imm (dN w) = true
  | .always => rfl
  | .is f ws => by
    show (imm (.str (Str.ofString "is")) && (imm (.str f) && (imm (dW ws) && immAll []))) = true
    rw [imm_dW]
    rfl
  | .nt w => by
    show (imm (.str (Str.ofString "not")) && (imm (dN w) && immAll [])) = true
    rw [imm_dN w]
    rfl
  | .both a b => by
    show (imm (.str (Str.ofString "both")) && (imm (dN a) && (imm (dN b) && immAll []))) = true
    rw [imm_dN a, imm_dN b]
    rfl
  | .either a b => by
    show (imm (.str (Str.ofString "either")) && (imm (dN a) && (imm (dN b) && immAll []))) = true
    rw [imm_dN a, imm_dN b]
    rfl
def dep : Wn → Nat
  | .always => 1
  | .is _ _ => 1
  | .nt w => dep w + 1
  | .both a b => max (dep a) (dep b) + 1
  | .either a b => max (dep a) (dep b) + 1
theorem dep_pos : ∀ w, 1 ≤ dep w
  | .always => Nat.le_refl _
  | .is _ _ => Nat.le_refl _
  | .nt _ => Nat.succ_le_succ (Nat.zero_le _)
  | .both _ _ => Nat.succ_le_succ (Nat.zero_le _)
  | .either _ _ => Nat.succ_le_succ (Nat.zero_le _)
def WOk (fs : List (Str × List Str)) : Wn → Prop
  | .always => True
  | .is f ws => (∃ p ∈ fs, p.1 = f) ∧ ∃ p ∈ fs, p.1 = f ∧ ws ≠ [] ∧ (∀ x ∈ ws, x ∈ p.2) ∧ ws.Pairwise ltS
  | .nt w => WOk fs w
  | .both a b => WOk fs a ∧ WOk fs b
  | .either a b => WOk fs a ∧ WOk fs b
def placeM : List (Str × List Str) → Str → Nat
  | [], _ => 0
  | p :: r, f => if p.1 = f then 0 else placeM r f + 1
theorem place_ok : ∀ (fs : List (Str × List Str)) (f : Str), (∃ p ∈ fs, p.1 = f) → ∃ h : placeM fs f < fs.length, fs[placeM fs f].1 = f ∧ ∀ m (hm : m < placeM fs f) (h2 : m < fs.length), fs[m].1 ≠ f
  | [], _, h => by
    obtain ⟨p, hp, _⟩ := h
    cases hp
  | p :: r, f, h => by
    by_cases e : p.1 = f
    · have e0 : placeM (p :: r) f = 0 := if_pos e
      refine ⟨by rw [e0]; exact Nat.zero_lt_succ _, ?_, fun m hm => by rw [e0] at hm; omega⟩
      simp only [e0]
      exact e
    · have e0 : placeM (p :: r) f = placeM r f + 1 := if_neg e
      have hr : ∃ p ∈ r, p.1 = f := by
        obtain ⟨q, hq, hf⟩ := h
        rcases List.mem_cons.mp hq with z | z
        · subst z
          exact absurd hf e
        · exact ⟨q, z, hf⟩
      obtain ⟨h1, h2, h3⟩ := place_ok r f hr
      refine ⟨by rw [e0]; exact Nat.succ_lt_succ h1, ?_, fun m hm hl => ?_⟩
      · simp only [e0]
        exact h2
      · cases m with
        | zero => exact e
        | succ m => exact h3 m (by rw [e0] at hm; omega) (Nat.lt_of_succ_lt_succ hl)
def holdsM (fs : List (Str × List Str)) (s : List Str) : Wn → Bool
  | .always => true
  | .is f ws => isIn ws (s.getD (placeM fs f) Str.empty)
  | .nt w => !holdsM fs s w
  | .both a b => holdsM fs s a && holdsM fs s b
  | .either a b => holdsM fs s a || holdsM fs s b
theorem Rp.tup_inv {H : Hp} {v : V} {ds : List PyData} (h : Rp H v (.tuple ds)) : ∃ a xs, v = .ref a ∧ H a = some (.tup xs) ∧ RpAll H xs ds := by
  cases h with
  | tup ha hs => exact ⟨_, _, rfl, ha, hs⟩
theorem Rp.lst_inv {H : Hp} {a : Addr} {ds : List PyData} (h : Rp H (.ref a) (.list ds)) : ∃ xs, H a = some (.lst xs) ∧ RpAll H xs ds := by
  cases h with
  | lst ha hs => exact ⟨_, ha, hs⟩
theorem RpAll.one {H : Hp} {vs : List V} {d : PyData} (h : RpAll H vs [d]) : ∃ v, vs = [v] ∧ Rp H v d := by
  cases h with
  | cons h1 h2 =>
    cases h2
    exact ⟨_, rfl, h1⟩
theorem RpAll.two {H : Hp} {vs : List V} {d e : PyData} (h : RpAll H vs [d, e]) : ∃ v w, vs = [v, w] ∧ Rp H v d ∧ Rp H w e := by
  cases h with
  | cons h1 h2 =>
    obtain ⟨w, rfl, h3⟩ := h2.one
    exact ⟨_, w, rfl, h1, h3⟩
theorem RpAll.three {H : Hp} {vs : List V} {d e f : PyData} (h : RpAll H vs [d, e, f]) : ∃ v w u, vs = [v, w, u] ∧ Rp H v d ∧ Rp H w e ∧ Rp H u f := by
  cases h with
  | cons h1 h2 =>
    obtain ⟨w, u, rfl, h3, h4⟩ := h2.two
    exact ⟨_, w, u, rfl, h1, h3, h4⟩
theorem Rp.str_inv {H : Hp} {v : V} {x : Str} (h : Rp H v (.str x)) : v = .str x := by
  cases h
  rfl
abbrev sPlace : Stmt := topS 11
abbrev nPlace : List Str := ["facets", "facet", "name", "words"]
theorem scPlace : FnScope nPlace ["facets", "facet"] (defScope sPlace) := ⟨rfl, rfl, rfl, by decide +kernel, rfl, by decide +kernel, by decide +kernel⟩
abbrev sHolds : Stmt := topS 12
abbrev nHolds : List Str := ["facets", "when", "setting", "word", "first", "second"]
theorem scHolds : FnScope nHolds ["facets", "when", "setting"] (defScope sHolds) := ⟨rfl, rfl, rfl, by decide +kernel, rfl, by decide +kernel, by decide +kernel⟩
section
variable {P : Program} {w : World} {K : PySem.W.Frag} {mg : Str → Option Value} {base : Heap}
def spPlace : Sp := fun vs H Q _ => ∃ (v : V) (f : Str) (fs : List (Str × List Str)), vs = [v, .str f] ∧ Rp H v (dF fs) ∧ (∃ p ∈ fs, p.1 = f) ∧ fs.length ≤ 1000 ∧ ∀ H', Same H H' → Q (.int ((placeM fs f : Nat) : Int)) H'
theorem ok_place {f : Addr} {fd : FuncData} {k : Nat} (F : Fun K "place_of" "place_of" sPlace f fd) : FnOk P w K mg base CX0 (k + 1) f fd ["facets", "facet"] spPlace := by
  refine F.ok scPlace (fun vs H Q E h => ?_) (fun cdv A outer s H vs Q E hr h => ?_)
  · obtain ⟨v, f, fs, rfl, _⟩ := h
    rfl
  · obtain ⟨v, f, fs, rfl, hv, hf, hfl, q⟩ := h
    refine ⟨_, pss_one (ps_ret (pe_bm PySem.F.plainAttrs_list PySem.F.slot_list_index PySem.F.type_list_index mt_index (pe_lc (own := [("name", 2), ("words", 3)]) (g := gTup K 2 (gCons (gName 2) (gCons (gName 3) gNil))) (tt := tYes) (te := tVar 2) rfl scPlace.nd (pi_tup (pv 0)) (blkOk_by (N := nPlace) (sc := defScope sPlace) (by decide +kernel))
      (fun _ _ _ _ _ => pg_tup rfl (pgs_cons (pg_name (i := 2) scPlace.nd rfl (.inl rfl)) (pgs_cons (pg_name (i := 3) scPlace.nd rfl (.inl rfl)) pgs_nil))) (fun _ _ _ _ _ => pts_nil) (fun _ _ _ _ _ => pv 2)) (pa_cons (pv 1) pa_nil))), ?_⟩
    obtain ⟨a, vs, rfl, ha, hs⟩ := hv.tup_inv
    have hlen := hs.length
    rw [List.length_map] at hlen
    refine ⟨.ref a, rfl, a, rfl, ⟨vs, SqT.of ha⟩, fun D nD => ?_⟩
    refine lc_it (walk_tup (xs := vs)) (fun i H3 => Same H H3 ∧ H3 D = some (.lst (((fs.take i).map (·.1)).map V.str))) ⟨same_upd nD, upd_same⟩ (fun i H3 _ h3 => SqT.of (h3.1 _ _ ha)) ?_ ?_
    · rintro i x H4 H3 hi ⟨s3, d3⟩ ⟨rfl, fx⟩
      obtain ⟨d, hd, hr0⟩ := hs.get fx
      have hif : i < fs.length := by omega
      rw [List.getElem?_map, List.getElem?_eq_getElem hif] at hd
      cases hd
      obtain ⟨b, u, rfl, hb, hu⟩ := (hr0.same s3).dP_inv
      refine ⟨b, _, rfl, SqT.of hb, rfl, _, _, rfl, _, _, rfl, rfl, rfl, _, rfl, _, d3, ?_, fun c o e => ?_, ?_⟩
      · rw [List.length_map, List.length_map, List.length_take]
        exact small1000 (by omega)
      · rw [upd_ne (fun z => by subst z; rw [nD] at e; cases e)]
        exact s3 _ _ e
      · rw [upd_same, List.take_succ_eq_append_getElem hif, List.map_append, List.map_append]
        rfl
    · rintro H3 ⟨s3, d3⟩
      rw [hlen, List.take_length] at d3
      obtain ⟨h1, h2, h3⟩ := place_ok fs f hf
      refine ⟨.inl ⟨rfl, _, SqL.of d3⟩, .str f, rfl, D, _, .str f, placeM fs f, .str f, rfl, rfl, SqL.of d3, rfl, all_flat _, ?_, by simp [eqV], fun m z' hm hz => ?_, q _ s3⟩
      · rw [List.getElem?_map, List.getElem?_map, List.getElem?_eq_getElem h1]
        simp only [Option.map_some, h2]
      · have hm2 : m < fs.length := by omega
        rw [List.getElem?_map, List.getElem?_map, List.getElem?_eq_getElem hm2] at hz
        have hz : some (V.str fs[m].1) = some z' := hz
        cases hz
        have := h3 m hm hm2
        show (fs[m].1 == f) = false
        exact beq_eq_false_iff_ne.mpr this
def spHolds (n : Nat) : Sp := fun vs H Q _ => ∃ (fv wv sv : V) (fs : List (Str × List Str)) (wn : Wn) (s : List Str), vs = [fv, wv, sv] ∧ Rp H fv (dF fs) ∧ Rp H wv (dN wn) ∧ Rp H sv (dW s) ∧ WOk fs wn ∧ dep wn ≤ n ∧ s.length = fs.length ∧ fs.length ≤ 1000 ∧ ∀ H', Same H H' → Q (.bl (holdsM fs s wn)) H'
theorem ok_holds {f fP : Addr} {fd fdP : FuncData} (F : Fun K "holds" "holds" sHolds f fd) (b : Binds K fd ["facets", "when", "setting"] []) (g : mg "holds" = some (.ref f)) (FP : Fun K "place_of" "place_of" sPlace fP fdP) (bP : Binds K fdP ["facets", "facet"] []) (gP : mg "place_of" = some (.ref fP)) :
    ∀ n, FnOk P w K mg base CX0 (n + 1) f fd ["facets", "when", "setting"] (spHolds n) := by
  intro n
  induction n with
  | zero => exact ⟨fun _ _ _ _ ⟨_, _, _, _, wn, _, _, _, _, _, _, hd, _⟩ => absurd hd (by have := dep_pos wn; omega), fun _ _ _ _ _ _ _ _ _ _ _ _ _ ⟨_, _, _, _, wn, _, _, _, _, _, _, hd, _⟩ => absurd hd (by have := dep_pos wn; omega)⟩
  | succ n ih =>
    have GP : FnOk P w K mg base CX0 (n + 1) fP fdP ["facets", "facet"] spPlace := ok_place FP
    refine F.ok scHolds (fun vs H Q E h => ?_) (fun cdv A outer s H vs Q E hr h => ?_)
    · obtain ⟨fv, wv, sv, fs, wn, s, rfl, _⟩ := h
      rfl
    · obtain ⟨fv, wv, sv, fs, wn, st, rfl, hf, hw, hs, hok, hd, hl, hfl, q⟩ := h
      refine ⟨_, pss_cons (ps_set (i := 3) scHolds.nd rfl (.inl rfl) (pe_ix ix_tup (pv 1) pe_int (fun _ _ => rfl)))
        (pss_cons (ps_if (pt_cmpR op_eq (pv 3) pe_str (nomark _)) (pss_one (ps_ret pe_bl)) pss_nil)
        (pss_cons (ps_if (pt_cmpR op_eq (pv 3) pe_str (nomark _)) (pss_one (ps_ret (pe_cmpR op_in_seq (pe_ix ix_tup (pv 2) (pe_call GP hr (by rfl) gP FP.kp bP .nil pass0 (pa_cons (pv 0) (pa_cons (pe_ix ix_tup (pv 1) pe_int (fun _ _ => rfl)) pa_nil))) (fun _ _ => rfl)) (pe_ix ix_tup (pv 1) pe_int (fun _ _ => rfl)) rfl))) pss_nil)
        (pss_cons (ps_set (i := 4) scHolds.nd rfl (.inl rfl) (pe_call ih hr (by rfl) g F.kp b .nil pass0 (pa_cons (pv 0) (pa_cons (pe_ix ix_tup (pv 1) pe_int (fun _ _ => rfl)) (pa_cons (pv 2) pa_nil)))))
        (pss_cons (ps_if (pt_cmpR op_eq (pv 3) pe_str (nomark _)) (pss_one (ps_ret (pe_not (pv 4)))) pss_nil)
        (pss_cons (ps_set (i := 5) scHolds.nd rfl (.inl rfl) (pe_call ih hr (by rfl) g F.kp b .nil pass0 (pa_cons (pv 0) (pa_cons (pe_ix ix_tup (pv 1) pe_int (fun _ _ => rfl)) (pa_cons (pv 2) pa_nil)))))
        (pss_cons (ps_if (pt_cmpR op_eq (pv 3) pe_str (nomark _)) (pss_one (ps_ret (pe_and (pv 4) (pe_one (pv 5))))) pss_nil)
        (pss_one (ps_ret (pe_or (pv 4) (pe_one (pv 5))))))))))), ?_⟩
      cases wn with
      | always =>
        obtain ⟨a, xs, rfl, ha, hx⟩ := hw.tup_inv
        obtain ⟨v1, rfl, h1⟩ := hx.one
        have h1 := h1.str_inv
        subst h1
        refine ⟨.ref a, rfl, a, _, 0, _, rfl, rfl, SqT.of ha, rfl, _, rfl, rfl, _, rfl, ?_⟩
        exact q _ (Same.refl H)
      | is fc ws =>
        obtain ⟨a, xs, rfl, ha, hx⟩ := hw.tup_inv
        obtain ⟨v1, v2, v3, rfl, h1, h2, h3⟩ := hx.three
        have h1 := h1.str_inv
        have h2 := h2.str_inv
        subst h1 h2
        obtain ⟨c, rfl, hc⟩ := h3.dW_inv
        obtain ⟨sa, rfl, hsa⟩ := hs.dW_inv
        obtain ⟨hp1, hp2, hp3⟩ := place_ok fs fc hok.1
        have hpl : placeM fs fc < st.length := by omega
        refine ⟨.ref a, rfl, a, _, 0, _, rfl, rfl, SqT.of ha, rfl, _, rfl, rfl, _, rfl, ?_⟩
        refine ⟨_, rfl, rfl, _, rfl, ?_⟩
        refine ⟨.ref sa, rfl, fv, rfl, .ref a, rfl, a, _, 1, _, rfl, rfl, SqT.of ha, rfl, fv, fc, fs, rfl, hf, hok.1, hfl, fun H1 s1 => ?_⟩
        refine ⟨sa, _, _, .str st[placeM fs fc], rfl, rfl, SqT.of (s1 _ _ hsa), atI_nat (by rw [List.getElem?_map, List.getElem?_eq_getElem hpl]; rfl), .ref a, rfl, a, _, 2, _, rfl, rfl, SqT.of (s1 _ _ ha), rfl, c, _, rfl, .inr (SqT.of (s1 _ _ hc)), rfl, all_flat _, ?_⟩
        have e : holdsM fs st (.is fc ws) = isIn ws st[placeM fs fc] := by
          show isIn ws (st.getD (placeM fs fc) Str.empty) = _
          rw [List.getD, List.getElem?_eq_getElem hpl]
          rfl
        have := q _ s1
        rw [e] at this
        exact this
      | nt w1 =>
        obtain ⟨a, xs, rfl, ha, hx⟩ := hw.tup_inv
        obtain ⟨v1, v2, rfl, h1, h2⟩ := hx.two
        have h1 := h1.str_inv
        subst h1
        refine ⟨.ref a, rfl, a, _, 0, _, rfl, rfl, SqT.of ha, rfl, _, rfl, rfl, _, rfl, ?_⟩
        refine ⟨_, rfl, rfl, _, rfl, ?_⟩
        refine ⟨fv, rfl, .ref a, rfl, a, _, 1, _, rfl, rfl, SqT.of ha, rfl, sv, rfl, fv, v2, sv, fs, w1, st, rfl, hf, h2, hs, hok, Nat.le_of_succ_le_succ hd, hl, hfl, fun H1 s1 => ?_⟩
        refine ⟨_, rfl, rfl, _, rfl, ?_⟩
        exact ⟨_, rfl, _, rfl, q _ s1⟩
      | both w1 w2 =>
        obtain ⟨a, xs, rfl, ha, hx⟩ := hw.tup_inv
        obtain ⟨v1, v2, v3, rfl, h1, h2, h3⟩ := hx.three
        have h1 := h1.str_inv
        subst h1
        have hd' : max (dep w1) (dep w2) ≤ n := Nat.le_of_succ_le_succ hd
        refine ⟨.ref a, rfl, a, _, 0, _, rfl, rfl, SqT.of ha, rfl, _, rfl, rfl, _, rfl, ?_⟩
        refine ⟨_, rfl, rfl, _, rfl, ?_⟩
        refine ⟨fv, rfl, .ref a, rfl, a, _, 1, _, rfl, rfl, SqT.of ha, rfl, sv, rfl, fv, v2, sv, fs, w1, st, rfl, hf, h2, hs, hok.1, by omega, hl, hfl, fun H1 s1 => ?_⟩
        refine ⟨_, rfl, rfl, _, rfl, ?_⟩
        refine ⟨fv, rfl, .ref a, rfl, a, _, 2, _, rfl, rfl, SqT.of (s1 _ _ ha), rfl, sv, rfl, fv, v3, sv, fs, w2, st, rfl, hf.same s1, h3.same s1, hs.same s1, hok.2, by omega, hl, hfl, fun H2 s2 => ?_⟩
        refine ⟨_, rfl, rfl, _, rfl, ?_⟩
        have hq := q _ (Same.trans s1 s2)
        have e : holdsM fs st (.both w1 w2) = (holdsM fs st w1 && holdsM fs st w2) := rfl
        rw [e] at hq
        refine ⟨_, rfl, _, rfl, ?_⟩
        cases hb : holdsM fs st w1 with
        | true =>
          rw [hb, Bool.true_and] at hq
          exact ⟨_, rfl, hq⟩
        | false =>
          rw [hb, Bool.false_and] at hq
          exact hq
      | either w1 w2 =>
        obtain ⟨a, xs, rfl, ha, hx⟩ := hw.tup_inv
        obtain ⟨v1, v2, v3, rfl, h1, h2, h3⟩ := hx.three
        have h1 := h1.str_inv
        subst h1
        have hd' : max (dep w1) (dep w2) ≤ n := Nat.le_of_succ_le_succ hd
        refine ⟨.ref a, rfl, a, _, 0, _, rfl, rfl, SqT.of ha, rfl, _, rfl, rfl, _, rfl, ?_⟩
        refine ⟨_, rfl, rfl, _, rfl, ?_⟩
        refine ⟨fv, rfl, .ref a, rfl, a, _, 1, _, rfl, rfl, SqT.of ha, rfl, sv, rfl, fv, v2, sv, fs, w1, st, rfl, hf, h2, hs, hok.1, by omega, hl, hfl, fun H1 s1 => ?_⟩
        refine ⟨_, rfl, rfl, _, rfl, ?_⟩
        refine ⟨fv, rfl, .ref a, rfl, a, _, 2, _, rfl, rfl, SqT.of (s1 _ _ ha), rfl, sv, rfl, fv, v3, sv, fs, w2, st, rfl, hf.same s1, h3.same s1, hs.same s1, hok.2, by omega, hl, hfl, fun H2 s2 => ?_⟩
        refine ⟨_, rfl, rfl, _, rfl, ?_⟩
        have hq := q _ (Same.trans s1 s2)
        have e : holdsM fs st (.either w1 w2) = (holdsM fs st w1 || holdsM fs st w2) := rfl
        rw [e] at hq
        refine ⟨_, rfl, _, rfl, ?_⟩
        cases hb : holdsM fs st w1 with
        | false =>
          rw [hb, Bool.false_or] at hq
          exact ⟨_, rfl, hq⟩
        | true =>
          rw [hb, Bool.true_or] at hq
          exact hq
end
end Sg

namespace Sg
open PySem PySem.Spec PyProof.Rows L2
abbrev sLHolds : Stmt := topS 28
abbrev nLHolds : List Str := ["_law_its_facets", "_law_its_when", "_law_setting", "_law_word", "_law_one", "_law_other", "_law_k", "_law_pair"]
theorem scLHolds : FnScope nLHolds ["_law_its_facets", "_law_its_when", "_law_setting"] (defScope sLHolds) := ⟨rfl, rfl, rfl, by decide +kernel, rfl, by decide +kernel, by decide +kernel⟩
section
variable {P : Program} {w : World} {K : PySem.W.Frag} {mg : Str → Option Value} {base : Heap}
theorem ok_lholds {f : Addr} {fd : FuncData} (F : Fun K "_law_holds" "_law_holds" sLHolds f fd) (b : Binds K fd ["_law_its_facets", "_law_its_when", "_law_setting"] []) (g : mg "_law_holds" = some (.ref f)) (me : mg "enumerate" = none) :
    ∀ n, FnOk P w K mg base CX0 (n + 1) f fd ["_law_its_facets", "_law_its_when", "_law_setting"] (spHolds n) := by
  intro n
  induction n with
  | zero => exact ⟨fun _ _ _ _ ⟨_, _, _, _, wn, _, _, _, _, _, _, hd, _⟩ => absurd hd (by have := dep_pos wn; omega), fun _ _ _ _ _ _ _ _ _ _ _ _ _ ⟨_, _, _, _, wn, _, _, _, _, _, _, hd, _⟩ => absurd hd (by have := dep_pos wn; omega)⟩
  | succ n ih =>
    refine F.ok scLHolds (fun vs H Q E h => ?_) (fun cdv A outer s H vs Q E hr h => ?_)
    · obtain ⟨fv, wv, sv, fs, wn, s, rfl, _⟩ := h
      rfl
    · obtain ⟨fv, wv, sv, fs, wn, st, rfl, hf, hw, hs, hok, hd, hl, hfl, q⟩ := h
      refine ⟨_, pss_cons (ps_set (i := 3) scLHolds.nd rfl (.inl rfl) (pe_ix ix_tup (pv 1) pe_int (fun _ _ => rfl)))
        (pss_cons (ps_if (pt_cmpR op_eq (pv 3) pe_str (nomark _)) (pss_one (ps_ret (pe_ix ix_list (pe_lc (own := [("_law_k", 6), ("_law_pair", 7)]) (g := gTup K 2 (gCons (gName 6) (gCons (gName 7) gNil))) (tt := tTest (tOp rEq (tOp (rIxT K) (tVar 7) (tC (.int 0))) (tOp (rIxT K) (tVar 1) (tC (.int 1))))) (te := tOp (rIn K false) (tOp (rIxT K) (tVar 2) (tVar 6)) (tOp (rIxT K) (tVar 1) (tC (.int 2)))) rfl scLHolds.nd (pi_enumT (by rfl) me (pa_cons (pv 0) pa_nil)) (blkOk_by (N := nLHolds) (sc := defScope sLHolds) (by decide +kernel))
            (fun _ _ _ _ _ => pg_tup rfl (pgs_cons (pg_name (i := 6) scLHolds.nd rfl (.inl rfl)) (pgs_cons (pg_name (i := 7) scLHolds.nd rfl (.inl rfl)) pgs_nil))) (fun _ _ _ _ _ => pts_one (pt_cmpR op_eq (pe_ix ix_tup (pv 7) pe_int (fun _ _ => rfl)) (pe_ix ix_tup (pv 1) pe_int (fun _ _ => rfl)) (nomark _)))
            (fun _ _ _ _ _ => pe_cmpR op_in_seq (pe_ix ix_tup (pv 2) (pv 6) (fun _ _ => rfl)) (pe_ix ix_tup (pv 1) pe_int (fun _ _ => rfl)) rfl)) pe_int (fun _ _ => rfl)))) pss_nil)
        (pss_cons (ps_if (pt_cmpR op_in_seq (pv 3) (pe_tup (pa_cons pe_str (pa_cons pe_str pa_nil))) rfl) (pss_one (ps_ret (pe_or (pe_cmpR op_eq (pv 3) pe_str (nomark _)) (pe_one (pe_not (pe_call ih hr (by rfl) g F.kp b .nil pass0 (pa_cons (pv 0) (pa_cons (pe_ix ix_tup (pv 1) pe_int (fun _ _ => rfl)) (pa_cons (pv 2) pa_nil))))))))) pss_nil)
        (pss_cons (ps_par (i := 4) (j := 5) rfl scLHolds.nd rfl rfl (by decide) rfl rfl (pa_cons (pe_call ih hr (by rfl) g F.kp b .nil pass0 (pa_cons (pv 0) (pa_cons (pe_ix ix_tup (pv 1) pe_int (fun _ _ => rfl)) (pa_cons (pv 2) pa_nil)))) (pa_cons (pe_call ih hr (by rfl) g F.kp b .nil pass0 (pa_cons (pv 0) (pa_cons (pe_ix ix_tup (pv 1) pe_int (fun _ _ => rfl)) (pa_cons (pv 2) pa_nil)))) pa_nil)) rfl)
        (pss_one (ps_ret (pe_ifExp (pt_cmpR op_eq (pv 3) pe_str (nomark _)) (pe_and (pv 4) (pe_one (pv 5))) (pe_or (pv 4) (pe_one (pv 5))))))))), ?_⟩
      cases wn with
      | always =>
        obtain ⟨a, xs, rfl, ha, hx⟩ := hw.tup_inv
        obtain ⟨v1, rfl, h1⟩ := hx.one
        have h1 := h1.str_inv
        subst h1
        refine ⟨.ref a, rfl, a, _, 0, _, rfl, rfl, SqT.of ha, rfl, _, rfl, rfl, _, rfl, ?_⟩
        refine ⟨_, rfl, by show 2 ≤ sizeLine; decide, fun p np => ⟨p, _, rfl, .inr (SqT.of upd_same), rfl, rfl, _, rfl, ?_⟩⟩
        refine ⟨_, rfl, rfl, _, rfl, ?_⟩
        exact q _ (same_upd np)
      | is fc ws =>
        obtain ⟨a, xs, rfl, ha, hx⟩ := hw.tup_inv
        obtain ⟨v1, v2, v3, rfl, h1, h2, h3⟩ := hx.three
        have h1 := h1.str_inv
        have h2 := h2.str_inv
        subst h1 h2
        obtain ⟨c, rfl, hc⟩ := h3.dW_inv
        obtain ⟨sa, rfl, hsa⟩ := hs.dW_inv
        obtain ⟨hp1, hp2, hp3⟩ := place_ok fs fc hok.1
        have hpl : placeM fs fc < st.length := by omega
        obtain ⟨fa, fxs, rfl, hfa, hfx⟩ := hf.tup_inv
        have hlen := hfx.length
        rw [List.length_map] at hlen
        have e : holdsM fs st (.is fc ws) = isIn ws st[placeM fs fc] := by
          show isIn ws (st.getD (placeM fs fc) Str.empty) = _
          rw [List.getD, List.getElem?_eq_getElem hpl]
          rfl
        refine ⟨.ref a, rfl, a, _, 0, _, rfl, rfl, SqT.of ha, rfl, _, rfl, rfl, _, rfl, ?_⟩
        refine ⟨.ref fa, rfl, fa, fxs, rfl, SqT.of hfa, fun D nD => ?_⟩
        refine lc_it (walk_enumT (xs := fxs)) (fun i H3 => ∃ bs : List Bool, Same H H3 ∧ H3 D = some (.lst (bs.map V.bl)) ∧ bs.length ≤ i ∧ (i ≤ placeM fs fc → bs = []) ∧ (placeM fs fc < i → ∃ r, bs = isIn ws st[placeM fs fc] :: r)) ⟨[], same_upd nD, upd_same, Nat.le_refl _, fun _ => rfl, fun h => absurd h (by omega)⟩ (fun i H3 _ h3 => let ⟨_, s3, _⟩ := h3; SqT.of (s3 _ _ hfa)) ?_ ?_
        · rintro i x H3 H4 hi ⟨bs, s3, d3, lb, b0, b1⟩ ⟨T, x1, x2, rfl, nT, rfl, f1, f2⟩
          cases f1
          have hif : i < fs.length := by omega
          have his : i < st.length := by omega
          obtain ⟨dd, hdd, r2⟩ := hfx.get f2
          rw [List.getElem?_map, List.getElem?_eq_getElem hif] at hdd
          cases hdd
          have sT : Same H3 (upd H3 T (.tup [.int (i : Nat), x2])) := same_upd nT
          have sA := Same.trans s3 sT
          obtain ⟨pb, pu, rfl, hpb, hpu⟩ := (r2.same sA).dP_inv
          refine ⟨T, _, rfl, SqT.of upd_same, rfl, _, _, rfl, _, _, rfl, rfl, rfl, .ref pb, rfl, pb, _, 0, _, rfl, rfl, SqT.of hpb, rfl, .ref a, rfl, a, _, 1, _, rfl, rfl, SqT.of (sA _ _ ha), rfl, rfl, _, rfl, ite2 (fun hz => ?_) (fun hz => ?_)⟩
          · have hz : fs[i].1 = fc := V.str.inj (of_decide_eq_true hz)
            refine ⟨.ref sa, rfl, .int (i : Nat), rfl, sa, _, _, .str st[i], rfl, rfl, SqT.of (sA _ _ hsa), atI_nat (by rw [List.getElem?_map, List.getElem?_eq_getElem his]; rfl), .ref a, rfl, a, _, 2, _, rfl, rfl, SqT.of (sA _ _ ha), rfl, c, _, rfl, .inr (SqT.of (sA _ _ hc)), rfl, all_flat _, _, sT _ _ d3, ?_, bs ++ [isIn ws st[i]], fun b o eb => ?_, ?_, ?_, ?_, ?_⟩
            · rw [List.length_map]
              exact small1000 (by omega)
            · rw [upd_ne (fun z => by subst z; rw [nD] at eb; cases eb)]
              exact sA _ _ eb
            · rw [upd_same, List.map_append]
              rfl
            · rw [List.length_append]
              simp
              exact lb
            · intro hle
              exact absurd hz (hp3 i (by omega) hif)
            · intro hlt
              by_cases hip : placeM fs fc < i
              · obtain ⟨r, hr'⟩ := b1 hip
                exact ⟨r ++ [isIn ws st[i]], by rw [hr']; rfl⟩
              · have ei : placeM fs fc = i := by omega
                rw [b0 (by omega)]
                refine ⟨[], ?_⟩
                simp only [ei]
                rfl
          · refine ⟨bs, sA, sT _ _ d3, by omega, fun hle => b0 (by omega), fun hlt => ?_⟩
            by_cases hip : placeM fs fc < i
            · exact b1 hip
            · have ei : placeM fs fc = i := by omega
              have hne : ¬ fs[i].1 = fc := fun z => hz (decide_eq_true (by rw [z]))
              exact absurd (by have := hp2; simp only [ei] at this; exact this) hne
        · rintro H3 ⟨bs, s3, d3, lb, b0, b1⟩
          obtain ⟨r, hr'⟩ := b1 (by omega)
          refine ⟨D, _, 0, .bl (isIn ws st[placeM fs fc]), rfl, rfl, SqL.of d3, by rw [hr']; exact atI_nat (j := 0) rfl, ?_⟩
          have := q _ s3
          rw [e] at this
          exact this
      | nt w1 =>
        obtain ⟨a, xs, rfl, ha, hx⟩ := hw.tup_inv
        obtain ⟨v1, v2, rfl, h1, h2⟩ := hx.two
        have h1 := h1.str_inv
        subst h1
        refine ⟨.ref a, rfl, a, _, 0, _, rfl, rfl, SqT.of ha, rfl, _, rfl, rfl, _, rfl, ?_⟩
        refine ⟨_, rfl, by show 2 ≤ sizeLine; decide, fun p np => ⟨p, _, rfl, .inr (SqT.of upd_same), rfl, rfl, _, rfl, ?_⟩⟩
        have s0 : Same H (upd H p (.tup [.str (Str.ofString "always"), .str (Str.ofString "not")])) := same_upd np
        refine ⟨_, rfl, rfl, _, rfl, ?_⟩
        refine ⟨fv, rfl, .ref a, rfl, a, _, 1, _, rfl, rfl, SqT.of (s0 _ _ ha), rfl, sv, rfl, fv, v2, sv, fs, w1, st, rfl, hf.same s0, h2.same s0, hs.same s0, hok, Nat.le_of_succ_le_succ hd, hl, hfl, fun H1 s1 => ?_⟩
        exact ⟨_, rfl, q _ (Same.trans s0 s1)⟩
      | both w1 w2 =>
        obtain ⟨a, xs, rfl, ha, hx⟩ := hw.tup_inv
        obtain ⟨v1, v2, v3, rfl, h1, h2, h3⟩ := hx.three
        have h1 := h1.str_inv
        subst h1
        have hd' : max (dep w1) (dep w2) ≤ n := Nat.le_of_succ_le_succ hd
        refine ⟨.ref a, rfl, a, _, 0, _, rfl, rfl, SqT.of ha, rfl, _, rfl, rfl, _, rfl, ?_⟩
        refine ⟨_, rfl, by show 2 ≤ sizeLine; decide, fun p np => ⟨p, _, rfl, .inr (SqT.of upd_same), rfl, rfl, _, rfl, ?_⟩⟩
        have s0 : Same H (upd H p (.tup [.str (Str.ofString "always"), .str (Str.ofString "not")])) := same_upd np
        refine ⟨fv, rfl, .ref a, rfl, a, _, 1, _, rfl, rfl, SqT.of (s0 _ _ ha), rfl, sv, rfl, fv, v2, sv, fs, w1, st, rfl, hf.same s0, h2.same s0, hs.same s0, hok.1, by omega, hl, hfl, fun H1 s1 => ?_⟩
        have s01 := Same.trans s0 s1
        refine ⟨fv, rfl, .ref a, rfl, a, _, 2, _, rfl, rfl, SqT.of (s01 _ _ ha), rfl, sv, rfl, fv, v3, sv, fs, w2, st, rfl, hf.same s01, h3.same s01, hs.same s01, hok.2, by omega, hl, hfl, fun H2 s2 => ⟨_, _, rfl, ?_⟩⟩
        refine ⟨_, rfl, rfl, _, rfl, ?_⟩
        have hq := q _ (Same.trans s01 s2)
        have e : holdsM fs st (.both w1 w2) = (holdsM fs st w1 && holdsM fs st w2) := rfl
        rw [e] at hq
        refine ⟨_, rfl, _, rfl, ?_⟩
        cases hb : holdsM fs st w1 with
        | true =>
          rw [hb, Bool.true_and] at hq
          exact ⟨_, rfl, hq⟩
        | false =>
          rw [hb, Bool.false_and] at hq
          exact hq
      | either w1 w2 =>
        obtain ⟨a, xs, rfl, ha, hx⟩ := hw.tup_inv
        obtain ⟨v1, v2, v3, rfl, h1, h2, h3⟩ := hx.three
        have h1 := h1.str_inv
        subst h1
        have hd' : max (dep w1) (dep w2) ≤ n := Nat.le_of_succ_le_succ hd
        refine ⟨.ref a, rfl, a, _, 0, _, rfl, rfl, SqT.of ha, rfl, _, rfl, rfl, _, rfl, ?_⟩
        refine ⟨_, rfl, by show 2 ≤ sizeLine; decide, fun p np => ⟨p, _, rfl, .inr (SqT.of upd_same), rfl, rfl, _, rfl, ?_⟩⟩
        have s0 : Same H (upd H p (.tup [.str (Str.ofString "always"), .str (Str.ofString "not")])) := same_upd np
        refine ⟨fv, rfl, .ref a, rfl, a, _, 1, _, rfl, rfl, SqT.of (s0 _ _ ha), rfl, sv, rfl, fv, v2, sv, fs, w1, st, rfl, hf.same s0, h2.same s0, hs.same s0, hok.1, by omega, hl, hfl, fun H1 s1 => ?_⟩
        have s01 := Same.trans s0 s1
        refine ⟨fv, rfl, .ref a, rfl, a, _, 2, _, rfl, rfl, SqT.of (s01 _ _ ha), rfl, sv, rfl, fv, v3, sv, fs, w2, st, rfl, hf.same s01, h3.same s01, hs.same s01, hok.2, by omega, hl, hfl, fun H2 s2 => ⟨_, _, rfl, ?_⟩⟩
        refine ⟨_, rfl, rfl, _, rfl, ?_⟩
        have hq := q _ (Same.trans s01 s2)
        have e : holdsM fs st (.either w1 w2) = (holdsM fs st w1 || holdsM fs st w2) := rfl
        rw [e] at hq
        refine ⟨_, rfl, _, rfl, ?_⟩
        cases hb : holdsM fs st w1 with
        | false =>
          rw [hb, Bool.false_or] at hq
          exact ⟨_, rfl, hq⟩
        | true =>
          rw [hb, Bool.true_or] at hq
          exact hq
end
end Sg

namespace Sg
open PySem PySem.Spec PyProof.Rows L2
def bud : Nat → Nat
  | 0 => 10
  | k + 1 => 2 * bud k + 10
theorem bud_mono : ∀ {j k : Nat}, j ≤ k → bud j ≤ bud k
  | j, 0, h => by
    have : j = 0 := by omega
    rw [this]
    exact Nat.le_refl _
  | j, k + 1, h => by
    by_cases e : j = k + 1
    · rw [e]
      exact Nat.le_refl _
    · have := bud_mono (j := j) (k := k) (by omega)
      show bud j ≤ 2 * bud k + 10
      omega
abbrev sWhen : Stmt := topS 27
abbrev nWhen : List Str := ["_law_tape_here", "_law_its_facets", "_law_deep", "_law_way", "_law_facet", "_law_words", "_law_one"]
theorem scWhen : FnScope nWhen ["_law_tape_here", "_law_its_facets", "_law_deep"] (defScope sWhen) := ⟨rfl, rfl, rfl, by decide +kernel, rfl, by decide +kernel, by decide +kernel⟩
section
variable {P : Program} {w : World} {K : PySem.W.Frag} {mg : Str → Option Value} {base : Heap}
/-! ### WHENs drawn -/
def spWhen (n : Nat) : Sp := fun vs H Q _ => ∃ (t : Addr) (fv : V) (k N : Nat) (fs : List (Str × List Str)), vs = [.ref t, fv, .int (k : Int)] ∧ 1 ≤ k ∧ k ≤ n ∧ Rp H fv (dF fs) ∧ FOk fs ∧ 1 ≤ fs.length ∧ fs.length ≤ 4 ∧ TapeAt H t N ∧ N + bud k ≤ 800000 ∧
  ∀ (wv : V) (H' : Hp) (wn : Wn), Ex t H H' → TapeAt H' t (N + bud k) → Rp H' wv (dN wn) → WOk fs wn → dep wn ≤ k → Q wv H'
theorem ok_when {f fD fP : Addr} {fd fdD fdP : FuncData} (F : Fun K "_law_when" "_law_when" sWhen f fd) (b : Binds K fd ["_law_tape_here", "_law_its_facets", "_law_deep"] []) (g : mg "_law_when" = some (.ref f)) (FD : Fun K "_law_draw" "_law_draw" sDraw fD fdD) (bD : Binds K fdD ["_law_tape_here", "_law_many"] []) (gD : mg "_law_draw" = some (.ref fD))
    (FP : Fun K "_law_part" "_law_part" sPart fP fdP) (bP : Binds K fdP ["_law_tape_here", "_law_some", "_law_many"] []) (gP : mg "_law_part" = some (.ref fP))
    (ml : mg "len" = none) (mr : mg "range" = none) (mls : mg "list" = none) (ms : mg "sorted" = none) (mt : mg "tuple" = none) (mm : mg "min" = none) :
    ∀ n, FnOk P w K mg base CX0 (n + 3) f fd ["_law_tape_here", "_law_its_facets", "_law_deep"] (spWhen n) := by
  intro n
  induction n with
  | zero => exact ⟨fun _ _ _ _ ⟨_, _, k, _, _, _, h1, h2, _⟩ => absurd h1 (by omega), fun _ _ _ _ _ _ _ _ _ _ _ _ _ ⟨_, _, k, _, _, _, h1, h2, _⟩ => absurd h1 (by omega)⟩
  | succ n ih =>
    have GD : FnOk P w K mg base CX0 (n + 3) fD fdD ["_law_tape_here", "_law_many"] spDraw := ok_draw FD
    have GP : FnOk P w K mg base CX0 (n + 3) fP fdP ["_law_tape_here", "_law_some", "_law_many"] spPart := ok_part FP FD bD gD ml mr mls
    refine F.ok scWhen (fun vs H Q E h => ?_) (fun cdv A outer s H vs Q E hr h => ?_)
    · obtain ⟨t, fv, k, N, fs, rfl, _⟩ := h
      rfl
    · obtain ⟨t, fv, k, N, fs, rfl, hk1, hkn, hf, hfo, hl1, hl4, hT, hN, q⟩ := h
      refine ⟨_, pss_cons (ps_set (i := 3) scWhen.nd rfl (.inl rfl) (pe_call GD hr (by rfl) gD FD.kp bD .nil pass0 (pa_cons (pv 0) (pa_cons pe_int pa_nil))))
        (pss_cons (ps_if (PW.pt (pw_or (pt_cmpR op_lt (pv 2) pe_int (nomark _)) (pw_or1 (pt_cmpR op_lt (pv 3) pe_int (nomark _)))))
          (pss_cons (ps_if (pt_cmpR op_eq (pe_call GD hr (by rfl) gD FD.kp bD .nil pass0 (pa_cons (pv 0) (pa_cons pe_int pa_nil))) pe_int (nomark _)) (pss_one (ps_ret (pe_tup (pa_cons pe_str pa_nil)))) pss_nil)
          (pss_cons (ps_asg (pe_ix ix_tup (pv 1) (pe_call GD hr (by rfl) gD FD.kp bD .nil pass0 (pa_cons (pv 0) (pa_cons (pe_callB call_len_seq (by rfl) ml PySem.boot_len (pa_cons (pv 1) pa_nil)) pa_nil))) (fun _ _ => rfl)) (pg_tup rfl (pgs_cons (pg_name (i := 4) scWhen.nd rfl (.inl rfl)) (pgs_cons (pg_name (i := 5) scWhen.nd rfl (.inl rfl)) pgs_nil))))
          (pss_one (ps_ret (pe_tup (pa_cons pe_str (pa_cons (pv 4) (pa_cons (pe_tupleOf (by rfl) mt (pe_callB cr_sortedS (by rfl) ms (by decide +kernel) (pa_cons (pe_call GP hr (by rfl) gP FP.kp bP .nil pass0 (pa_cons (pv 0) (pa_cons (pv 5) (pa_cons (pe_op op_add pe_int (pe_call GD hr (by rfl) gD FD.kp bD .nil pass0 (pa_cons (pv 0) (pa_cons (pe_callB call_len_seq (by rfl) ml PySem.boot_len (pa_cons (pv 5) pa_nil)) pa_nil)))) pa_nil)))) pa_nil))) pa_nil)))))))) pss_nil)
        (pss_cons (ps_if (pt_cmpR op_eq (pv 3) pe_int (nomark _)) (pss_one (ps_ret (pe_tup (pa_cons pe_str (pa_cons (pe_call ih hr (by rfl) g F.kp b .nil pass0 (pa_cons (pv 0) (pa_cons (pv 1) (pa_cons (pe_op op_sub (pv 2) pe_int) pa_nil)))) pa_nil))))) pss_nil)
        (pss_cons (ps_set (i := 6) scWhen.nd rfl (.inl rfl) (pe_call ih hr (by rfl) g F.kp b .nil pass0 (pa_cons (pv 0) (pa_cons (pv 1) (pa_cons (pe_op op_sub (pv 2) pe_int) pa_nil)))))
        (pss_one (ps_ret (pe_tup (pa_cons (pe_ix ix_list (pe_lst (pa_cons pe_str (pa_cons pe_str pa_nil))) (pe_op op_mod (pv 3) pe_int) (fun _ _ => rfl)) (pa_cons (pv 6) (pa_cons (pe_call ih hr (by rfl) g F.kp b .nil pass0 (pa_cons (pv 0) (pa_cons (pv 1) (pa_cons (pe_callB (call_min2 rfl) (by rfl) mm (by decide +kernel) (pa_cons pe_int (pa_cons (pe_op op_sub (pv 2) pe_int) pa_nil))) pa_nil)))) pa_nil))))))))), ?_⟩
      have hb10 : ∀ j, 10 ≤ bud j := fun j => bud_mono (j := 0) (Nat.zero_le j)
      have hbk := hb10 k
      refine ⟨.ref t, rfl, t, 6, N, rfl, by decide, by decide, hT, by omega, fun way H1 x1 T1 hw0 hw1 => ?_⟩
      have hf1 := hf.keep (hT.keepT x1) (imm_dF fs)
      refine ⟨.int (k : Int), rfl, (k : Int), 2, rfl, rfl, _, rfl, ite2 (fun h2 => ?_) (fun h2 => ⟨.int way, rfl, way, 2, rfl, rfl, _, rfl, ite2 (fun h3 => ?_) (fun h3 => ?_)⟩)⟩
      · refine ⟨.ref t, rfl, t, 8, N + 1, rfl, by decide, by decide, T1, by omega, fun r2 H2 x2 T2 h20 h21 => ⟨rfl, _, rfl, ite2 (fun h0 => ?_) (fun h0 => ?_)⟩⟩
        · refine ⟨by show 1 ≤ sizeLine; decide, fun p np => ?_⟩
          exact q _ _ .always ((x1.trans x2).trans (Same.ex (same_upd np))) ((T2.upd (T2.ne_none np)).mono (by omega)) (.tup upd_same (.cons (.str _) .nil)) trivial hk1
        · have hf2 := hf1.keep (T1.keepT x2) (imm_dF fs)
          obtain ⟨a, xs, rfl, ha, hs⟩ := hf2.tup_inv
          have hlen := hs.length
          rw [List.length_map] at hlen
          refine ⟨.ref a, rfl, .ref t, rfl, .ref a, rfl, a, xs, rfl, .inr (SqT.of ha), t, _, N + 2, rfl, by omega, by omega, T2, by omega, fun r3 H3 x3 T3 h30 h31 => ?_⟩
          obtain ⟨j, rfl⟩ : ∃ j : Nat, r3 = j := ⟨r3.toNat, by omega⟩
          have hj : j < fs.length := by omega
          have hp := hfo _ (List.getElem_mem hj)
          have ha3 := x3 a _ (T2.ne_tup ha) ha
          obtain ⟨vj, hvj, rvj⟩ := hs.getD (show (fs.map fun p => PyData.tuple [.str p.1, dW p.2])[j]? = some (dP fs[j]) by rw [List.getElem?_map, List.getElem?_eq_getElem hj]; rfl)
          obtain ⟨pb, pu, rfl, hpb, hpu⟩ := (rvj.keep (T2.keepT x3) (imm_dP _)).dP_inv
          obtain ⟨g', rfl, hg⟩ := hpu.dW_inv
          refine ⟨a, xs, (j : Int), .ref pb, rfl, rfl, SqT.of ha3, atI_nat hvj, pb, _, rfl, SqT.of hpb, rfl, _, _, rfl, _, _, rfl, rfl, ?_⟩
          refine ⟨.str fs[j].1, rfl, .ref t, rfl, .ref g', rfl, .ref t, rfl, .ref g', rfl, g', _, rfl, .inr (SqT.of hg), t, _, N + 3, rfl, by rw [List.length_map]; omega, by rw [List.length_map]; omega, T3, by omega, fun r4 H4 x4 T4 h40 h41 => ?_⟩
          rw [List.length_map] at h41
          obtain ⟨r4', rfl⟩ : ∃ r4' : Nat, r4 = r4' := ⟨r4.toNat, by omega⟩
          obtain ⟨g2, eg2, hg4⟩ := ((Rp.dW_mk hg).keep (T3.keepT x4) (imm_dW _)).dW_inv
          cases eg2
          refine ⟨1, (r4' : Int), rfl, rfl, Str, PyData.str, fs[j].2, t, g', _, 1 + r4', N + 4, by rfl, .inl hg4, RpAll.strs _, fun _ => rfl, by omega, by omega, T4, by omega, fun p5 H5 usv us rest x5 T5 np5 e5' r5 l5 pm5 => ?_⟩
          have eus := RpAll.strs_eq r5
          subst eus
          have e5 := e5'
          have und : us.Nodup := (List.nodup_append.mp (pm5.nodup_iff.mpr (pairwise_nodup hp.2.2.2.2))).1
          have usub : ∀ x ∈ us, x ∈ fs[j].2 := fun x hx => pm5.mem_iff.mp (List.mem_append.mpr (.inl hx))
          refine ⟨p5, us, rfl, SqL.of e5, by omega, fun ys p6 hperm hso np6 => .inl ⟨p6, _, rfl, SqL.of upd_same, fun p7 np7 => ⟨by show 3 ≤ sizeLine; decide, fun p8 np8 => ?_⟩⟩⟩
          have s58 := Same.trans (same_upd (H := H5) (o := .lst (ys.map V.str)) np6) (Same.trans (same_upd (o := .tup (ys.map V.str)) np7) (same_upd (o := .tup [.str (Str.ofString "is"), .str fs[j].1, .ref p7]) np8))
          have e7 := same_upd (o := .tup [.str (Str.ofString "is"), .str fs[j].1, .ref p7]) np8 _ _ (upd_same (H := upd H5 p6 (.lst (ys.map V.str))) (a := p7) (o := .tup (ys.map V.str)))
          exact q _ _ (.is fs[j].1 ys) ((((x1.trans x2).trans x3).trans (x4.trans x5)).trans (Same.ex s58)) ((T5.same s58).mono (by omega)) (.tup upd_same (.cons (.str _) (.cons (.str _) (.cons (Rp.dW_mk e7) .nil)))) ⟨⟨_, List.getElem_mem hj, rfl⟩, _, List.getElem_mem hj, rfl, (fun z => by have := hperm.length_eq; rw [z] at this; simp at this; omega), fun x hx => usub x (hperm.mem_iff.mp hx), sorted_pairwise hso (hperm.nodup_iff.mpr und)⟩ hk1
      · refine ⟨.ref t, rfl, t, 8, N + 1, rfl, by decide, by decide, T1, by omega, fun r2 H2 x2 T2 h20 h21 => ⟨rfl, _, rfl, ite2 (fun h0 => ?_) (fun h0 => ?_)⟩⟩
        · refine ⟨by show 1 ≤ sizeLine; decide, fun p np => ?_⟩
          exact q _ _ .always ((x1.trans x2).trans (Same.ex (same_upd np))) ((T2.upd (T2.ne_none np)).mono (by omega)) (.tup upd_same (.cons (.str _) .nil)) trivial hk1
        · have hf2 := hf1.keep (T1.keepT x2) (imm_dF fs)
          obtain ⟨a, xs, rfl, ha, hs⟩ := hf2.tup_inv
          have hlen := hs.length
          rw [List.length_map] at hlen
          refine ⟨.ref a, rfl, .ref t, rfl, .ref a, rfl, a, xs, rfl, .inr (SqT.of ha), t, _, N + 2, rfl, by omega, by omega, T2, by omega, fun r3 H3 x3 T3 h30 h31 => ?_⟩
          obtain ⟨j, rfl⟩ : ∃ j : Nat, r3 = j := ⟨r3.toNat, by omega⟩
          have hj : j < fs.length := by omega
          have hp := hfo _ (List.getElem_mem hj)
          have ha3 := x3 a _ (T2.ne_tup ha) ha
          obtain ⟨vj, hvj, rvj⟩ := hs.getD (show (fs.map fun p => PyData.tuple [.str p.1, dW p.2])[j]? = some (dP fs[j]) by rw [List.getElem?_map, List.getElem?_eq_getElem hj]; rfl)
          obtain ⟨pb, pu, rfl, hpb, hpu⟩ := (rvj.keep (T2.keepT x3) (imm_dP _)).dP_inv
          obtain ⟨g', rfl, hg⟩ := hpu.dW_inv
          refine ⟨a, xs, (j : Int), .ref pb, rfl, rfl, SqT.of ha3, atI_nat hvj, pb, _, rfl, SqT.of hpb, rfl, _, _, rfl, _, _, rfl, rfl, ?_⟩
          refine ⟨.str fs[j].1, rfl, .ref t, rfl, .ref g', rfl, .ref t, rfl, .ref g', rfl, g', _, rfl, .inr (SqT.of hg), t, _, N + 3, rfl, by rw [List.length_map]; omega, by rw [List.length_map]; omega, T3, by omega, fun r4 H4 x4 T4 h40 h41 => ?_⟩
          rw [List.length_map] at h41
          obtain ⟨r4', rfl⟩ : ∃ r4' : Nat, r4 = r4' := ⟨r4.toNat, by omega⟩
          obtain ⟨g2, eg2, hg4⟩ := ((Rp.dW_mk hg).keep (T3.keepT x4) (imm_dW _)).dW_inv
          cases eg2
          refine ⟨1, (r4' : Int), rfl, rfl, Str, PyData.str, fs[j].2, t, g', _, 1 + r4', N + 4, by rfl, .inl hg4, RpAll.strs _, fun _ => rfl, by omega, by omega, T4, by omega, fun p5 H5 usv us rest x5 T5 np5 e5' r5 l5 pm5 => ?_⟩
          have eus := RpAll.strs_eq r5
          subst eus
          have e5 := e5'
          have und : us.Nodup := (List.nodup_append.mp (pm5.nodup_iff.mpr (pairwise_nodup hp.2.2.2.2))).1
          have usub : ∀ x ∈ us, x ∈ fs[j].2 := fun x hx => pm5.mem_iff.mp (List.mem_append.mpr (.inl hx))
          refine ⟨p5, us, rfl, SqL.of e5, by omega, fun ys p6 hperm hso np6 => .inl ⟨p6, _, rfl, SqL.of upd_same, fun p7 np7 => ⟨by show 3 ≤ sizeLine; decide, fun p8 np8 => ?_⟩⟩⟩
          have s58 := Same.trans (same_upd (H := H5) (o := .lst (ys.map V.str)) np6) (Same.trans (same_upd (o := .tup (ys.map V.str)) np7) (same_upd (o := .tup [.str (Str.ofString "is"), .str fs[j].1, .ref p7]) np8))
          have e7 := same_upd (o := .tup [.str (Str.ofString "is"), .str fs[j].1, .ref p7]) np8 _ _ (upd_same (H := upd H5 p6 (.lst (ys.map V.str))) (a := p7) (o := .tup (ys.map V.str)))
          exact q _ _ (.is fs[j].1 ys) ((((x1.trans x2).trans x3).trans (x4.trans x5)).trans (Same.ex s58)) ((T5.same s58).mono (by omega)) (.tup upd_same (.cons (.str _) (.cons (.str _) (.cons (Rp.dW_mk e7) .nil)))) ⟨⟨_, List.getElem_mem hj, rfl⟩, _, List.getElem_mem hj, rfl, (fun z => by have := hperm.length_eq; rw [z] at this; simp at this; omega), fun x hx => usub x (hperm.mem_iff.mp hx), sorted_pairwise hso (hperm.nodup_iff.mpr und)⟩ hk1
      · have h2 : ¬ (k : Int) < 2 := fun z => h2 (decide_eq_true z)
        obtain ⟨k', rfl⟩ : ∃ k', k = k' + 1 := ⟨k - 1, by omega⟩
        have hbk' : bud (k' + 1) = 2 * bud k' + 10 := rfl
        have ek : ((k' + 1 : Nat) : Int) - 1 = (k' : Int) := by omega
        refine ⟨.int way, rfl, rfl, _, rfl, ite2 (fun h4 => ?_) (fun h4 => ?_)⟩
        · refine ⟨.ref t, rfl, fv, rfl, .int ((k' + 1 : Nat) : Int), rfl, _, 1, rfl, rfl, t, fv, k', N + 1, fs, ?_, by omega, by omega, hf1, hfo, hl1, hl4, T1, by omega, fun wv H2 wn x2 T2 hwv hok hdp => ?_⟩
          · show [V.ref t, fv, V.int (((k' + 1 : Nat) : Int) - 1)] = _
            rw [ek]
          · refine ⟨by show 2 ≤ sizeLine; decide, fun p np => ?_⟩
            exact q _ _ (.nt wn) ((x1.trans x2).trans (Same.ex (same_upd np))) ((T2.upd (T2.ne_none np)).mono (by omega)) (.tup upd_same (.cons (.str _) (.cons (hwv.same (same_upd np)) .nil))) hok (Nat.succ_le_succ hdp)
        · refine ⟨.ref t, rfl, fv, rfl, .int ((k' + 1 : Nat) : Int), rfl, _, 1, rfl, rfl, t, fv, k', N + 1, fs, ?_, by omega, by omega, hf1, hfo, hl1, hl4, T1, by omega, fun wv H2 wn x2 T2 hwv hok hdp => ?_⟩
          · show [V.ref t, fv, V.int (((k' + 1 : Nat) : Int) - 1)] = _
            rw [ek]
          have hf2 := hf1.keep (T1.keepT x2) (imm_dF fs)
          refine ⟨by show 2 ≤ sizeLine; decide, fun l nl => ?_⟩
          have sl : Same H2 (upd H2 l (.lst [.str (Str.ofString "both"), .str (Str.ofString "either")])) := same_upd nl
          have hm2 := mod_lt (i := way) (j := 2) (by decide)
          obtain ⟨wd, hwd, hwd2⟩ : ∃ wd : Str, atI [V.str (Str.ofString "both"), V.str (Str.ofString "either")] (way % 2) = some (.str wd) ∧ (wd = Str.ofString "both" ∨ wd = Str.ofString "either") := by
            have : way % 2 = 0 ∨ way % 2 = 1 := by omega
            rcases this with z | z
            · rw [z]
              exact ⟨_, rfl, .inl rfl⟩
            · rw [z]
              exact ⟨_, rfl, .inr rfl⟩
          refine ⟨.int way, rfl, way, 2, rfl, rfl, (by decide : (0 : Int) < 2), l, _, _, .str wd, rfl, rfl, SqL.of upd_same, hwd, wv, rfl, ?_⟩
          obtain ⟨m, hm, hm1, hmk⟩ : ∃ m : Nat, (if ((k' + 1 : Nat) : Int) - 1 < 2 then ((k' + 1 : Nat) : Int) - 1 else 2) = (m : Int) ∧ 1 ≤ m ∧ m ≤ k' := by
            by_cases z : ((k' + 1 : Nat) : Int) - 1 < 2
            · exact ⟨k', by rw [if_pos z]; omega, by omega, Nat.le_refl _⟩
            · exact ⟨2, by rw [if_neg z]; rfl, by omega, by omega⟩
          have hbm := bud_mono hmk
          have T2l := T2.same sl
          refine ⟨.ref t, rfl, fv, rfl, .int ((k' + 1 : Nat) : Int), rfl, _, 1, rfl, rfl, 2, _, rfl, t, fv, m, N + 1 + bud k', fs, ?_, hm1, by omega, hf2.same sl, hfo, hl1, hl4, T2l, by omega, fun wv2 H3 wn2 x3 T3 hwv2 hok2 hdp2 => ⟨by show 3 ≤ sizeLine; decide, fun p np => ?_⟩⟩
          · rw [hm]
            rfl
          have kT := T2l.keepT x3
          have hwv3 := (hwv.same sl).keep kT (imm_dN wn)
          have xx : Ex t H (upd H3 p (.tup [.str wd, wv, wv2])) := ((x1.trans x2).trans (Same.ex sl)).trans (x3.trans (Same.ex (same_upd np)))
          have TT : TapeAt (upd H3 p (.tup [.str wd, wv, wv2])) t (N + bud (k' + 1)) := (T3.upd (T3.ne_none np)).mono (by omega)
          have hdd : max (dep wn) (dep wn2) + 1 ≤ k' + 1 := by omega
          rcases hwd2 with rfl | rfl
          · exact q _ _ (.both wn wn2) xx TT (.tup upd_same (.cons (.str _) (.cons (hwv3.same (same_upd np)) (.cons (hwv2.same (same_upd np)) .nil)))) ⟨hok, hok2⟩ hdd
          · exact q _ _ (.either wn wn2) xx TT (.tup upd_same (.cons (.str _) (.cons (hwv3.same (same_upd np)) (.cons (hwv2.same (same_upd np)) .nil)))) ⟨hok, hok2⟩ hdd
end
end Sg

namespace Sg
open PySem PySem.Spec PyProof.Rows L2
abbrev sAll : Stmt := topS 31
abbrev nAll : List Str := ["_law_a_facets", "_law_pair"]
theorem scAll : FnScope nAll ["_law_a_facets"] (defScope sAll) := ⟨rfl, rfl, rfl, by decide +kernel, rfl, by decide +kernel, by decide +kernel⟩
theorem COk.of {fs : List (Str × List Str)} (h : FOk fs) (hl : fs.length ≤ 4) : COk (fs.map (·.2)) := ⟨by rw [List.length_map]; exact hl, fun ws hw => by
  obtain ⟨p, hp, rfl⟩ := List.mem_map.mp hw
  have := h p hp
  exact ⟨by omega, this.2.2.1, this.2.2.2.1⟩⟩
/-- [f(x) for x in a list], f's answers without lists in them -/
theorem calls_lc {K : PySem.W.Frag} {α : Type} {a : Addr} {us : List V} {xs : List α} {d val : α → PyData} {σ : L2.St} {vs : List Nat} {slot : Nat} {te : TE} {H1 : Hp} {D : Addr} {Qd : Hp → Prop} (nD : H1 D = none) (ha : H1 a = some (.lst us)) (hr : RpAll H1 us (xs.map d)) (hlen : xs.length ≤ 1000) (himm : ∀ x, imm (val x) = true)
    (hw : ∀ x : V, wipe ((wipe σ vs).set slot (some x)) vs = wipe σ vs)
    (hcall : ∀ (i : Nat) (h : i < xs.length) (x : V) (H2 : Hp) (Q : VK), Same H1 H2 → Rp H2 x (d xs[i]) → (∀ r H3, Same H2 H3 → Rp H3 r (val xs[i]) → Q r H3) → te ((wipe σ vs).set slot (some x)) H2 Q)
    (hd : ∀ H' ts, Same H1 H' → H' D = some (.lst ts) → RpAll H' ts (xs.map val) → Qd H') :
    ∃ W : Nat → Nat → Hp → Prop, (∃ m, W 0 m (upd H1 D (.lst []))) ∧ ∀ i m H, W i m H →
      ((Itl K a).stop i H ∧ Qd H) ∨ ((Itl K a).go i H ∧ ∃ Nx : Hp → Prop, (∀ H', Nx H' → ∃ m', m' < m ∧ W (i + 1) m' H') ∧ ∀ x H', (Itl K a).yld i H x H' → gName slot x (wipe σ vs) H' fun σ2 H2 => wipe σ2 vs = wipe σ vs ∧ tYes σ2 H2 fun b H3 =>
        if b = true then te σ2 H3 fun y H4 => ∃ acc, H4 D = some (.lst acc) ∧ acc.length < sizeLine ∧ Nx (upd H4 D (.lst (acc ++ [y]))) else Nx H3) := by
  have hl := hr.length
  rw [List.length_map] at hl
  refine lc_it (walk_list (xs := us)) (fun i H3 => ∃ ts, Same H1 H3 ∧ H3 D = some (.lst ts) ∧ RpAll H3 ts ((xs.take i).map val)) ⟨[], same_upd nD, upd_same, .nil⟩ (fun i H3 _ h3 => let ⟨_, s3, _⟩ := h3; SqL.of (s3 _ _ ha)) ?_ ?_
  · rintro i x H4 H3 hi ⟨ts, s3, d3, r3⟩ ⟨rfl, fx⟩
    obtain ⟨dd, hdd, hr0⟩ := hr.get fx
    have hix : i < xs.length := by omega
    rw [List.getElem?_map, List.getElem?_eq_getElem hix] at hdd
    cases hdd
    refine ⟨hw _, hcall i hix x _ _ s3 (hr0.same s3) fun r H5 s5 h5 => ?_⟩
    have d5 := s5 _ _ d3
    have kT : KeepT H5 (upd H5 D (.lst (ts ++ [r]))) := keepT_lst d5
    refine ⟨ts, d5, ?_, ts ++ [r], fun b o e => ?_, upd_same, ?_⟩
    · rw [r3.length, List.length_map, List.length_take]
      exact small1000 (by omega)
    · rw [upd_ne (fun z => by subst z; rw [nD] at e; cases e)]
      exact s5 _ _ (s3 _ _ e)
    · rw [List.take_succ_eq_append_getElem hix, List.map_append]
      exact ((r3.same s5).keep kT (immAll_map himm _)).append (.cons (h5.keep kT (himm _)) .nil)
  · rintro H3 ⟨ts, s3, d3, r3⟩
    rw [hl, List.take_length] at r3
    exact hd _ _ s3 d3 r3
section
variable {P : Program} {w : World} {K : PySem.W.Frag} {mg : Str → Option Value} {base : Heap}
/-- [pair[1] for pair in facets] -/
theorem seconds_lc {a : Addr} {vs : List V} {fs : List (Str × List Str)} {σ : L2.St} {ws : List Nat} {slot : Nat} {H1 : Hp} {D : Addr} {Qd : Hp → Prop} (nD : H1 D = none) (ha : H1 a = some (.tup vs)) (hs : RpAll H1 vs (fs.map fun p => .tuple [.str p.1, dW p.2])) (hlen : fs.length ≤ 1000)
    (hw : ∀ x : V, wipe ((wipe σ ws).set slot (some x)) ws = wipe σ ws) (hv : ∀ x : V, ((wipe σ ws).set slot (some x))[slot]? = some (some x))
    (hd : ∀ H' us, Same H1 H' → H' D = some (.lst us) → RpAll H' us ((fs.map (·.2)).map dW) → Qd H') :
    ∃ W : Nat → Nat → Hp → Prop, (∃ m, W 0 m (upd H1 D (.lst []))) ∧ ∀ i m H, W i m H →
      ((Itt K a).stop i H ∧ Qd H) ∨ ((Itt K a).go i H ∧ ∃ Nx : Hp → Prop, (∀ H', Nx H' → ∃ m', m' < m ∧ W (i + 1) m' H') ∧ ∀ x H', (Itt K a).yld i H x H' → gName slot x (wipe σ ws) H' fun σ2 H2 => wipe σ2 ws = wipe σ ws ∧ tYes σ2 H2 fun b H3 =>
        if b = true then tOp (rIxT K) (tVar slot) (tC (.int 1)) σ2 H3 fun y H4 => ∃ acc, H4 D = some (.lst acc) ∧ acc.length < sizeLine ∧ Nx (upd H4 D (.lst (acc ++ [y]))) else Nx H3) := by
  have hl := hs.length
  rw [List.length_map] at hl
  refine lc_it (walk_tup (xs := vs)) (fun i H5 => ∃ us : List V, Same H1 H5 ∧ H5 D = some (.lst us) ∧ RpAll H5 us (((fs.take i).map (·.2)).map dW)) ⟨[], same_upd nD, upd_same, .nil⟩ (fun i H5 _ h5 => let ⟨_, s5, _⟩ := h5; SqT.of (s5 _ _ ha)) ?_ ?_
  · rintro i x H6 H5 hi ⟨us, s5, d5, r5⟩ ⟨rfl, fx⟩
    obtain ⟨d, hdd, hr0⟩ := hs.get fx
    have hif : i < fs.length := by omega
    rw [List.getElem?_map, List.getElem?_eq_getElem hif] at hdd
    cases hdd
    obtain ⟨b, u, rfl, hb, hu⟩ := (hr0.same s5).dP_inv
    obtain ⟨g, rfl, hg⟩ := hu.dW_inv
    refine ⟨hw _, _, hv _, b, _, 1, .ref g, rfl, rfl, SqT.of hb, rfl, _, d5, ?_, us ++ [.ref g], fun c o e => ?_, upd_same, ?_⟩
    · rw [r5.length, List.length_map, List.length_map, List.length_take]
      exact small1000 (by omega)
    · rw [upd_ne (fun z => by subst z; rw [nD] at e; cases e)]
      exact s5 _ _ e
    · rw [List.take_succ_eq_append_getElem hif, List.map_append]
      exact RpAll.snoc d5 r5 hg
  · rintro H5 ⟨us, s5, d5, r5⟩
    rw [hl, List.take_length] at r5
    exact hd _ _ s5 d5 r5
def spAll : Sp := fun vs H Q _ => ∃ (v : V) (fs : List (Str × List Str)), vs = [v] ∧ Rp H v (dF fs) ∧ FOk fs ∧ fs.length ≤ 4 ∧ ∀ (p : Addr) (H' : Hp), Same H H' → H p = none → Rp H' (.ref p) (.list ((settingsM (fs.map (·.2))).map dW)) → Q (.ref p) H'
theorem ok_all {f fL : Addr} {fd fdL : FuncData} {k : Nat} (F : Fun K "_law_all" "_law_all" sAll f fd) (FL : Fun K "_law_settings" "_law_settings" sLSettings fL fdL) (bL : Binds K fdL ["_law_some"] []) (gL : mg "_law_settings" = some (.ref fL)) : FnOk P w K mg base CX0 (k + 2) f fd ["_law_a_facets"] spAll := by
  have GL : FnOk P w K mg base CX0 (k + 1) fL fdL ["_law_some"] spSettingsA := ok_lsettings FL
  refine F.ok scAll (fun vs H Q E h => ?_) (fun cdv A outer s H vs Q E hr h => ?_)
  · obtain ⟨v, fs, rfl, _⟩ := h
    rfl
  · obtain ⟨v, fs, rfl, hv, hfo, hfl, q⟩ := h
    refine ⟨_, pss_one (ps_ret (pe_call GL hr (by rfl) gL FL.kp bL .nil pass0 (pa_cons (pe_lc (own := [("_law_pair", 1)]) (g := gName 1) (tt := tYes) (te := tOp (rIxT K) (tVar 1) (tC (.int 1))) rfl scAll.nd (pi_tup (pv 0)) (blkOk_by (N := nAll) (sc := defScope sAll) (by decide +kernel))
      (fun _ _ _ _ _ => pg_name (i := 1) scAll.nd rfl (.inl rfl)) (fun _ _ _ _ _ => pts_nil) (fun _ _ _ _ _ => pe_ix ix_tup (pv 1) pe_int (fun _ _ => rfl))) pa_nil))), ?_⟩
    obtain ⟨a, vs, rfl, ha, hs⟩ := hv.tup_inv
    refine ⟨.ref a, rfl, a, rfl, ⟨vs, SqT.of ha⟩, fun D nD => ?_⟩
    refine seconds_lc nD ha hs (by omega) (fun _ => rfl) (fun _ => rfl) fun H1 us s1 d1 r1 => ?_
    exact ⟨.ref D, fs.map (·.2), rfl, .inr (.lst d1 r1), COk.of hfo hfl, fun p H2 s2 np hp => q _ _ (Same.trans s1 s2) (s1.free np) hp⟩
end
end Sg

namespace Sg
open PySem PySem.Spec PyProof.Rows L2
abbrev Cse : Type := List (List Str)
/-! ### CASEs of FACETS' words -/
def VC : Cse → Cse → Prop
  | [], [] => True
  | W :: Ws, ws :: c => ws ≠ [] ∧ (∀ x ∈ ws, x ∈ W) ∧ ws.Pairwise ltS ∧ VC Ws c
  | [], _ :: _ => False
  | _ :: _, [] => False
theorem VC.len : ∀ {Ws c : Cse}, VC Ws c → c.length = Ws.length
  | [], [], _ => rfl
  | _ :: _, _ :: _, h => by rw [List.length_cons, List.length_cons, VC.len h.2.2.2]
  | [], _ :: _, h => h.elim
  | _ :: _, [], h => h.elim
theorem VC.each : ∀ {Ws c : Cse}, VC Ws c → ∀ ws ∈ c, ∃ W ∈ Ws, ws ≠ [] ∧ (∀ x ∈ ws, x ∈ W) ∧ ws.Pairwise ltS
  | [], [], _, _, hw => by cases hw
  | W :: Ws, v :: c, h, ws, hw => by
    rcases List.mem_cons.mp hw with z | z
    · rw [z]
      exact ⟨W, List.mem_cons_self .., h.1, h.2.1, h.2.2.1⟩
    · obtain ⟨W', h1, h2⟩ := VC.each h.2.2.2 ws z
      exact ⟨W', List.mem_cons_of_mem _ h1, h2⟩
  | [], _ :: _, h, _, _ => h.elim
  | _ :: _, [], h, _, _ => h.elim
theorem VC.ok {Ws c : Cse} (hW : COk Ws) (h : VC Ws c) : COk c := by
  refine ⟨by rw [h.len]; exact hW.1, fun ws hw => ?_⟩
  obtain ⟨W, hm, h1, h2, h3⟩ := h.each ws hw
  have hk := hW.2 W hm
  refine ⟨?_, Nat.le_trans (len_le (pairwise_nodup h3) h2) hk.2.1, fun x hx => hk.2.2 x (h2 x hx)⟩
  cases ws with
  | nil => exact absurd rfl h1
  | cons _ _ => exact Nat.succ_le_succ (Nat.zero_le _)
theorem VC.self : ∀ {Ws : Cse}, (∀ ws ∈ Ws, ws ≠ [] ∧ ws.Pairwise ltS) → VC Ws Ws
  | [], _ => trivial
  | W :: Ws, h => ⟨(h W (List.mem_cons_self ..)).1, fun _ hx => hx, (h W (List.mem_cons_self ..)).2, VC.self fun ws hw => h ws (List.mem_cons_of_mem _ hw)⟩
theorem VC.whole {fs : List (Str × List Str)} (h : FOk fs) : VC (fs.map (·.2)) (fs.map (·.2)) := VC.self fun ws hw => by
  obtain ⟨p, hp, rfl⟩ := List.mem_map.mp hw
  have := h p hp
  refine ⟨fun e => ?_, this.2.2.2.2⟩
  have h2 := this.2.1
  rw [e] at h2
  exact absurd h2 (by decide)
theorem VC.in_all : ∀ {Ws c : Cse} {s : List Str}, VC Ws c → In c s → In Ws s
  | [], [], [], _, _ => trivial
  | W :: Ws, ws :: c, w :: s, h, hs => ⟨h.2.1 w hs.1, VC.in_all h.2.2.2 hs.2⟩
  | [], [], _ :: _, _, hs => hs.elim
  | _ :: _, _ :: _, [], _, hs => hs.elim
  | [], _ :: _, _, h, _ => h.elim
  | _ :: _, [], _, h, _ => h.elim
theorem vc_boths : ∀ {Ws c d : Cse}, VC Ws c → c.length = d.length → (∀ ws ∈ bothsM c d, ws ≠ []) → VC Ws (bothsM c d)
  | [], [], [], _, _, _ => trivial
  | W :: Ws, ws :: c, os :: d, h, hl, hne => by
    have e : bothsM (ws :: c) (os :: d) = ws.filter (isIn os) :: bothsM c d := rfl
    rw [e] at hne ⊢
    exact ⟨hne _ (List.mem_cons_self ..), fun x hx => h.2.1 x (List.mem_filter.mp hx).1, h.2.2.1.filter _, vc_boths h.2.2.2 (by simpa using hl) fun w hw => hne w (List.mem_cons_of_mem _ hw)⟩
  | [], [], _ :: _, _, hl, _ => by simp at hl
  | _ :: _, _ :: _, [], _, hl, _ => by simp at hl
  | [], _ :: _, _, h, _, _ => h.elim
  | _ :: _, [], _, h, _, _ => h.elim
theorem common_ne {c d b : Cse} (h : commonM c d = some b) : ∀ ws ∈ bothsM c d, ws ≠ [] := by
  intro ws hw e
  unfold commonM at h
  rw [if_pos (List.any_eq_true.mpr ⟨ws, hw, by rw [e]; rfl⟩)] at h
  cases h
theorem VC.common {Ws c d b : Cse} (h : VC Ws c) (hl : c.length = d.length) (e : commonM c d = some b) : VC Ws b := by
  rw [common_is e]
  exact vc_boths h hl (common_ne e)
theorem vc_withoutR : ∀ {Ws c d : Cse}, VC Ws c → c.length = d.length → (∀ ws ∈ bothsM c d, ws ≠ []) → ∀ p ∈ withoutR c d, VC Ws p
  | [], [], [], _, _, _, _, hp => by cases hp
  | W :: Ws, ws :: c, os :: d, h, hl, hne, p, hp => by
    have e : bothsM (ws :: c) (os :: d) = ws.filter (isIn os) :: bothsM c d := rfl
    rw [e] at hne
    rcases List.mem_append.mp hp with z | z
    · split at z
      · cases z
      · rename_i hm
        rw [List.mem_singleton.mp z]
        exact ⟨fun e => hm (by rw [e]; rfl), fun x hx => h.2.1 x (List.mem_filter.mp hx).1, h.2.2.1.filter _, h.2.2.2⟩
    · obtain ⟨q, hq, rfl⟩ := List.mem_map.mp z
      exact ⟨hne _ (List.mem_cons_self ..), fun x hx => h.2.1 x (List.mem_filter.mp hx).1, h.2.2.1.filter _, vc_withoutR h.2.2.2 (by simpa using hl) (fun w hw => hne w (List.mem_cons_of_mem _ hw)) q hq⟩
  | [], [], _ :: _, _, hl, _, _, _ => by simp at hl
  | _ :: _, _ :: _, [], _, hl, _, _, _ => by simp at hl
  | [], _ :: _, _, h, _, _, _, _ => h.elim
  | _ :: _, [], _, h, _, _, _, _ => h.elim
theorem VC.without {Ws c d : Cse} (h : VC Ws c) (hl : c.length = d.length) : ∀ p ∈ withoutM c d, VC Ws p := by
  have hw : withoutM c d = match commonM c d with
    | none => [c]
    | some b => (List.range c.length).flatMap (pieceM b c d) := rfl
  cases hcm : commonM c d with
  | none =>
    rw [hcm] at hw
    have hw : withoutM c d = [c] := hw
    rw [hw]
    intro p hp
    rw [List.mem_singleton.mp hp]
    exact h
  | some b =>
    rw [hcm] at hw
    have hb := common_is hcm
    subst hb
    have hw : withoutM c d = (List.range c.length).flatMap (pieceM (bothsM c d) c d) := hw
    rw [hw, pieces_eq c d hl]
    exact vc_withoutR h hl (common_ne hcm)
/-! ### lists of CASEs, no setting in two -/
def Cs (Ws : Cse) (cs : List Cse) : Prop := (∀ c ∈ cs, VC Ws c) ∧ Apart cs
def Any (cs : List Cse) (s : List Str) : Prop := ∃ c ∈ cs, In c s
theorem Cs.one {Ws c : Cse} (h : VC Ws c) : Cs Ws [c] := ⟨fun d hd => by rw [List.mem_singleton.mp hd]; exact h, List.pairwise_singleton _ _⟩
theorem any_one (c : Cse) (s : List Str) : Any [c] s ↔ In c s := by
  constructor
  · rintro ⟨d, hd, h⟩
    rw [List.mem_singleton.mp hd] at h
    exact h
  · exact fun h => ⟨c, List.mem_singleton.mpr rfl, h⟩
theorem any_append (cs ds : List Cse) (s : List Str) : Any (cs ++ ds) s ↔ Any cs s ∨ Any ds s := by
  constructor
  · rintro ⟨c, hc, h⟩
    rcases List.mem_append.mp hc with z | z
    · exact .inl ⟨c, z, h⟩
    · exact .inr ⟨c, z, h⟩
  · rintro (⟨c, hc, h⟩ | ⟨c, hc, h⟩)
    · exact ⟨c, List.mem_append.mpr (.inl hc), h⟩
    · exact ⟨c, List.mem_append.mpr (.inr hc), h⟩
theorem Cs.append {Ws : Cse} {cs ds : List Cse} (h1 : Cs Ws cs) (h2 : Cs Ws ds) (h : ∀ s, Any cs s → ¬ Any ds s) : Cs Ws (cs ++ ds) := by
  refine ⟨fun c hc => ?_, ?_⟩
  · rcases List.mem_append.mp hc with z | z
    · exact h1.1 c z
    · exact h2.1 c z
  · unfold Apart
    rw [List.pairwise_append]
    exact ⟨h1.2, h2.2, fun p hp q hq s hs hs2 => h s ⟨p, hp, hs⟩ ⟨q, hq, hs2⟩⟩
/-- each exchanged for some within it -/
theorem Cs.flat {Ws : Cse} {f : Cse → List Cse} : ∀ {cs : List Cse}, Cs Ws cs → (∀ c, VC Ws c → Cs Ws (f c) ∧ ∀ s, Any (f c) s → In c s) → Cs Ws (cs.flatMap f)
  | [], _, _ => ⟨fun _ h => (by cases h), .nil⟩
  | c :: cs, h, hf => by
    rw [List.flatMap_cons]
    have hc := hf c (h.1 c (List.mem_cons_self ..))
    have hp := List.pairwise_cons.mp h.2
    refine hc.1.append (Cs.flat ⟨fun d hd => h.1 d (List.mem_cons_of_mem _ hd), hp.2⟩ hf) fun s h1 h2 => ?_
    obtain ⟨q, hq, hs⟩ := h2
    obtain ⟨d, hd, hqd⟩ := List.mem_flatMap.mp hq
    exact hp.1 d hd s (hc.2 s h1) ((hf d (h.1 d (List.mem_cons_of_mem _ hd))).2 s ⟨q, hqd, hs⟩)
theorem any_flat (f : Cse → List Cse) (cs : List Cse) (s : List Str) : Any (cs.flatMap f) s ↔ ∃ c ∈ cs, Any (f c) s := by
  constructor
  · rintro ⟨q, hq, hs⟩
    obtain ⟨d, hd, hqd⟩ := List.mem_flatMap.mp hq
    exact ⟨d, hd, q, hqd, hs⟩
  · rintro ⟨d, hd, q, hqd, hs⟩
    exact ⟨q, List.mem_flatMap.mpr ⟨d, hd, hqd⟩, hs⟩
def lessM (cs : List Cse) (o : Cse) : List Cse := cs.flatMap (withoutM · o)
theorem Cs.less {Ws o : Cse} {cs : List Cse} (h : Cs Ws cs) (ho : VC Ws o) : Cs Ws (lessM cs o) := h.flat fun c hc => by
  have hl : c.length = o.length := by rw [hc.len, ho.len]
  exact ⟨⟨hc.without hl, apart_without hl⟩, fun s hs => ((in_without hl s).mp hs).1⟩
theorem any_less {Ws o : Cse} {cs : List Cse} (h : Cs Ws cs) (ho : VC Ws o) (s : List Str) : Any (lessM cs o) s ↔ Any cs s ∧ ¬ In o s := by
  unfold lessM
  rw [any_flat]
  constructor
  · rintro ⟨c, hc, hs⟩
    have hl : c.length = o.length := by rw [(h.1 c hc).len, ho.len]
    have := (in_without hl s).mp hs
    exact ⟨⟨c, hc, this.1⟩, this.2⟩
  · rintro ⟨⟨c, hc, hs⟩, hn⟩
    have hl : c.length = o.length := by rw [(h.1 c hc).len, ho.len]
    exact ⟨c, hc, (in_without hl s).mpr ⟨hs, hn⟩⟩
def cwoM (cs os : List Cse) : List Cse := os.foldl lessM cs
theorem cs_cwo {Ws : Cse} : ∀ {os cs : List Cse}, Cs Ws cs → (∀ o ∈ os, VC Ws o) → Cs Ws (cwoM cs os) ∧ ∀ s, Any (cwoM cs os) s ↔ Any cs s ∧ ¬ Any os s
  | [], cs, h, _ => ⟨h, fun s => ⟨fun hs => ⟨hs, fun ⟨_, hc, _⟩ => by cases hc⟩, fun hs => hs.1⟩⟩
  | o :: os, cs, h, ho => by
    have h1 := h.less (ho o (List.mem_cons_self ..))
    have ih := cs_cwo h1 (fun p hp => ho p (List.mem_cons_of_mem _ hp))
    refine ⟨ih.1, fun s => ?_⟩
    show Any (cwoM (lessM cs o) os) s ↔ _
    rw [ih.2 s, any_less h (ho o (List.mem_cons_self ..)) s]
    constructor
    · rintro ⟨⟨h2, h3⟩, h4⟩
      refine ⟨h2, ?_⟩
      rintro ⟨c, hc, hs⟩
      rcases List.mem_cons.mp hc with z | z
      · rw [z] at hs
        exact h3 hs
      · exact h4 ⟨c, z, hs⟩
    · rintro ⟨h2, h3⟩
      exact ⟨⟨h2, fun z => h3 ⟨o, List.mem_cons_self .., z⟩⟩, fun ⟨c, hc, hs⟩ => h3 ⟨c, List.mem_cons_of_mem _ hc, hs⟩⟩
def sharedM (cs os : List Cse) : List (Option Cse) := cs.flatMap fun c => os.map fun o => commonM c o
def cicM (cs os : List Cse) : List Cse := (sharedM cs os).filterMap id
theorem cic_eq (cs os : List Cse) : cicM cs os = cs.flatMap fun c => os.filterMap fun o => commonM c o := by
  unfold cicM sharedM
  rw [List.filterMap_flatMap]
  congr 1
  funext c
  rw [List.filterMap_map]
  rfl
theorem cs_row {Ws c : Cse} (hc : VC Ws c) : ∀ {os : List Cse}, Cs Ws os → Cs Ws (os.filterMap fun o => commonM c o) ∧ ∀ s, Any (os.filterMap fun o => commonM c o) s ↔ In c s ∧ Any os s := by
  intro os ho
  have hany : ∀ s, Any (os.filterMap fun o => commonM c o) s ↔ In c s ∧ Any os s := fun s => by
    constructor
    · rintro ⟨b, hb, hs⟩
      obtain ⟨o, hm, e⟩ := List.mem_filterMap.mp hb
      have hl : c.length = o.length := by rw [hc.len, (ho.1 o hm).len]
      have := (common_in hl s).mp ⟨b, e, hs⟩
      exact ⟨this.1, o, hm, this.2⟩
    · rintro ⟨h1, o, hm, h2⟩
      have hl : c.length = o.length := by rw [hc.len, (ho.1 o hm).len]
      obtain ⟨b, e, hs⟩ := (common_in hl s).mpr ⟨h1, h2⟩
      exact ⟨b, List.mem_filterMap.mpr ⟨o, hm, e⟩, hs⟩
  refine ⟨⟨fun b hb => ?_, ?_⟩, hany⟩
  · obtain ⟨o, hm, e⟩ := List.mem_filterMap.mp hb
    have hl : c.length = o.length := by rw [hc.len, (ho.1 o hm).len]
    exact hc.common hl e
  · unfold Apart
    rw [List.pairwise_filterMap]
    refine (ho.2.imp_of_mem ?_)
    intro o o' hm hm' hap b hb b' hb' s hs hs'
    have hl : c.length = o.length := by rw [hc.len, (ho.1 o hm).len]
    have hl' : c.length = o'.length := by rw [hc.len, (ho.1 o' hm').len]
    exact hap s ((common_in hl s).mp ⟨b, hb, hs⟩).2 ((common_in hl' s).mp ⟨b', hb', hs'⟩).2
theorem cs_cic {Ws : Cse} {cs os : List Cse} (h : Cs Ws cs) (ho : Cs Ws os) : Cs Ws (cicM cs os) ∧ ∀ s, Any (cicM cs os) s ↔ Any cs s ∧ Any os s := by
  rw [cic_eq]
  refine ⟨h.flat fun c hc => ⟨(cs_row hc ho).1, fun s hs => (((cs_row hc ho).2 s).mp hs).1⟩, fun s => ?_⟩
  rw [any_flat]
  constructor
  · rintro ⟨c, hc, hs⟩
    have := ((cs_row (h.1 c hc) ho).2 s).mp hs
    exact ⟨⟨c, hc, this.1⟩, this.2⟩
  · rintro ⟨⟨c, hc, hs⟩, h2⟩
    exact ⟨c, hc, ((cs_row (h.1 c hc) ho).2 s).mpr ⟨hs, h2⟩⟩
/-! ### how many -/
def pickM (c : Cse) : List Str := c.map fun ws => ws.headD Str.empty
theorem in_pick : ∀ {Ws c : Cse}, VC Ws c → In c (pickM c)
  | [], [], _ => trivial
  | _ :: _, ws :: c, h => by
    refine ⟨?_, in_pick h.2.2.2⟩
    show ws.headD Str.empty ∈ ws
    cases ws with
    | nil => exact absurd rfl h.1
    | cons w r => exact List.mem_cons_self ..
  | [], _ :: _, h => h.elim
  | _ :: _, [], h => h.elim
theorem Cs.few {Ws : Cse} {cs : List Cse} (hW : COk Ws) (h : Cs Ws cs) : cs.length ≤ 256 := by
  have h1 : (cs.map pickM).length ≤ (settingsM Ws).length := by
    refine len_le ?_ fun s hs => ?_
    · unfold List.Nodup
      rw [List.pairwise_map]
      refine h.2.imp_of_mem ?_
      intro c d hc hd hap e
      have h2 := in_pick (h.1 d hd)
      rw [← e] at h2
      exact hap _ (in_pick (h.1 c hc)) h2
    · obtain ⟨c, hc, rfl⟩ := List.mem_map.mp hs
      exact (mem_settings Ws _).mpr ((h.1 c hc).in_all (in_pick (h.1 c hc)))
  rw [List.length_map] at h1
  have h2 := settingsM_len (fun ws hw => (hW.2 ws hw).2.1) Ws.length (Nat.le_refl _)
  rw [List.take_length] at h2
  exact Nat.le_trans h1 (Nat.le_trans h2 (pow4 hW.1))
/-! ### the cases of a WHEN -/
def partM (fs : List (Str × List Str)) (f : Str) (ws : List Str) : Cse := (fs.map (·.2)).take (placeM fs f) ++ ws :: (fs.map (·.2)).drop (placeM fs f + 1)
def casesM (fs : List (Str × List Str)) : Wn → List Cse
  | .always => [fs.map (·.2)]
  | .is f ws => [partM fs f ws]
  | .nt w => cwoM [fs.map (·.2)] (casesM fs w)
  | .both a b => cicM (casesM fs a) (casesM fs b)
  | .either a b => casesM fs a ++ cwoM (casesM fs b) (casesM fs a)
theorem part_ok (ws : List Str) (hne : ws ≠ []) (hr : ws.Pairwise ltS) (f : Str) : ∀ fs : List (Str × List Str), VC (fs.map (·.2)) (fs.map (·.2)) → (∃ p ∈ fs, p.1 = f) → (∀ (h : placeM fs f < fs.length), ∀ x ∈ ws, x ∈ fs[placeM fs f].2) → VC (fs.map (·.2)) (partM fs f ws) ∧ ∀ s, In (fs.map (·.2)) s → (In (partM fs f ws) s ↔ isIn ws (s.getD (placeM fs f) Str.empty) = true)
  | [], _, h, _ => by
    obtain ⟨p, hp, _⟩ := h
    cases hp
  | p :: r, hv, h, hs => by
    by_cases e : p.1 = f
    · have e0 : placeM (p :: r) f = 0 := if_pos e
      unfold partM
      have hs0 : ∀ x ∈ ws, x ∈ p.2 := fun x hx => by
        have := hs (by rw [e0]; exact Nat.zero_lt_succ _) x hx
        simp only [e0] at this
        exact this
      rw [e0]
      refine ⟨⟨hne, hs0, hr, hv.2.2.2⟩, fun s hsn => ?_⟩
      cases s with
      | nil => exact hsn.elim
      | cons w s =>
        show (w ∈ ws ∧ In (r.map (·.2)) s) ↔ isIn ws w = true
        rw [isIn_iff]
        exact ⟨fun z => z.1, fun z => ⟨z, hsn.2⟩⟩
    · have e0 : placeM (p :: r) f = placeM r f + 1 := if_neg e
      have hr' : ∃ p ∈ r, p.1 = f := by
        obtain ⟨q, hq, hf⟩ := h
        rcases List.mem_cons.mp hq with z | z
        · subst z
          exact absurd hf e
        · exact ⟨q, z, hf⟩
      have ih := part_ok ws hne hr f r hv.2.2.2 hr' fun hl x hx => by
        have := hs (by rw [e0]; exact Nat.succ_lt_succ hl) x hx
        simp only [e0] at this
        exact this
      have ep : partM (p :: r) f ws = p.2 :: partM r f ws := by
        unfold partM
        rw [e0]
        rfl
      rw [ep, e0]
      refine ⟨⟨hv.1, hv.2.1, hv.2.2.1, ih.1⟩, fun s hsn => ?_⟩
      cases s with
      | nil => exact hsn.elim
      | cons w s =>
        have := ih.2 s hsn.2
        show (w ∈ p.2 ∧ In (partM r f ws) s) ↔ isIn ws (s.getD (placeM r f) Str.empty) = true
        rw [this]
        exact ⟨fun z => z.2, fun z => ⟨hsn.1, z⟩⟩
theorem cases_ok {fs : List (Str × List Str)} (hf : FOk fs) (hn : (fs.map (·.1)).Nodup) : ∀ wn, WOk fs wn → Cs (fs.map (·.2)) (casesM fs wn) ∧ ∀ s, In (fs.map (·.2)) s → (Any (casesM fs wn) s ↔ holdsM fs s wn = true)
  | .always, _ => ⟨Cs.one (VC.whole hf), fun s hs => ⟨fun _ => rfl, fun _ => (any_one _ _).mpr hs⟩⟩
  | .is f ws, h => by
    obtain ⟨h1, p, hp, rfl, h2, h3, h4⟩ := h
    have hpl := place_ok fs p.1 h1
    obtain ⟨hl, hat, _⟩ := hpl
    have := part_ok ws h2 h4 p.1 fs (VC.whole hf) h1 fun hl' x hx => by
      obtain ⟨j, hj, ej⟩ := List.getElem_of_mem hp
      have : placeM fs p.1 = j := by
        have e1 : (fs.map (·.1))[placeM fs p.1]'(by rw [List.length_map]; exact hl) = (fs.map (·.1))[j]'(by rw [List.length_map]; exact hj) := by
          rw [List.getElem_map, List.getElem_map, hat, ej]
        have hn' := List.pairwise_iff_getElem.mp hn
        rcases Nat.lt_trichotomy (placeM fs p.1) j with z | z | z
        · exact absurd e1 (hn' _ _ _ _ z)
        · exact z
        · exact absurd e1.symm (hn' _ _ _ _ z)
      have e2 : fs[placeM fs p.1] = p := by simp only [this]; exact ej
      rw [e2]
      exact h3 x hx
    exact ⟨Cs.one this.1, fun s hs => by rw [show casesM fs (.is p.1 ws) = [partM fs p.1 ws] from rfl, any_one]; exact this.2 s hs⟩
  | .nt w, h => by
    have ih := cases_ok hf hn w h
    have hc := cs_cwo (Cs.one (VC.whole hf)) ih.1.1
    refine ⟨hc.1, fun s hs => ?_⟩
    show Any (cwoM [fs.map (·.2)] (casesM fs w)) s ↔ (!holdsM fs s w) = true
    rw [hc.2 s, any_one, ih.2 s hs]
    cases holdsM fs s w <;> simp [hs]
  | .both a b, h => by
    have ia := cases_ok hf hn a h.1
    have ib := cases_ok hf hn b h.2
    have hc := cs_cic ia.1 ib.1
    refine ⟨hc.1, fun s hs => ?_⟩
    show Any (cicM (casesM fs a) (casesM fs b)) s ↔ (holdsM fs s a && holdsM fs s b) = true
    rw [hc.2 s, ia.2 s hs, ib.2 s hs, Bool.and_eq_true]
  | .either a b, h => by
    have ia := cases_ok hf hn a h.1
    have ib := cases_ok hf hn b h.2
    have hc := cs_cwo ib.1 ia.1.1
    refine ⟨ia.1.append hc.1 fun s h1 h2 => ((hc.2 s).mp h2).2 h1, fun s hs => ?_⟩
    show Any (casesM fs a ++ cwoM (casesM fs b) (casesM fs a)) s ↔ (holdsM fs s a || holdsM fs s b) = true
    rw [any_append, hc.2 s, ia.2 s hs, ib.2 s hs, Bool.or_eq_true]
    constructor
    · rintro (z | z)
      · exact .inl z
      · exact .inr z.1
    · rintro (z | z)
      · exact .inl z
      · by_cases y : holdsM fs s a = true
        · exact .inl y
        · exact .inr ⟨z, y⟩
end Sg

namespace Sg
open PySem PySem.Spec PyProof.Rows L2
abbrev sCwo : Stmt := topS 15
abbrev nCwo : List Str := ["cases", "others", "other", "case", "rest"]
theorem scCwo : FnScope nCwo ["cases", "others"] (defScope sCwo) := ⟨rfl, rfl, rfl, by decide +kernel, rfl, by decide +kernel, by decide +kernel⟩
abbrev sCic : Stmt := topS 16
abbrev nCic : List Str := ["cases", "others", "shared", "case", "other"]
theorem scCic : FnScope nCic ["cases", "others"] (defScope sCic) := ⟨rfl, rfl, rfl, by decide +kernel, rfl, by decide +kernel, by decide +kernel⟩
theorem smallM {n : Nat} (h : n ≤ 100000) : n < sizeLine := Nat.lt_of_le_of_lt h (by decide)
theorem flat_le {α β : Type} (f : α → List β) (k : Nat) : ∀ cs : List α, (∀ c ∈ cs, (f c).length ≤ k) → (cs.flatMap f).length ≤ cs.length * k
  | [], _ => Nat.zero_le _
  | c :: cs, h => by
    rw [List.flatMap_cons, List.length_append, List.length_cons, Nat.succ_mul]
    have h1 := h c (List.mem_cons_self ..)
    have h2 := flat_le f k cs fun d hd => h d (List.mem_cons_of_mem _ hd)
    omega
theorem without_len {c d : Cse} (hc : COk c) : (withoutM c d).length ≤ 4 := by
  have h4 := hc.1
  have hw : withoutM c d = match commonM c d with
    | none => [c]
    | some b => (List.range c.length).flatMap (pieceM b c d) := rfl
  cases hcm : commonM c d with
  | none =>
    rw [hcm] at hw
    have hw : withoutM c d = [c] := hw
    rw [hw]
    show 1 ≤ 4
    decide
  | some b =>
    rw [hcm] at hw
    have hw : withoutM c d = (List.range c.length).flatMap (pieceM b c d) := hw
    rw [hw]
    exact Nat.le_trans (pieces_len b c d _) h4
theorem RpAll.add {α : Type} {f : α → PyData} (himm : ∀ x, imm (f x) = true) {H : Hp} {D : Addr} {us : List V} {xs : List α} {r : V} {x : α} (d : H D = some (.lst us)) (h : RpAll H us (xs.map f)) (hr : Rp H r (f x)) : RpAll (upd H D (.lst (us ++ [r]))) (us ++ [r]) ((xs ++ [x]).map f) := by
  rw [List.map_append]
  have kT : KeepT H (upd H D (.lst (us ++ [r]))) := keepT_lst d
  exact (h.keep kT (immAll_map himm xs)).append (.cons (hr.keep kT (himm x)) .nil)
theorem same_add {H H1 : Hp} {D : Addr} {o : HO} (nD : H D = none) (s : Same H H1) : Same H (upd H1 D o) := fun b o' e => by
  rw [upd_ne (fun z => by subst z; rw [nD] at e; cases e)]
  exact s _ _ e
theorem imm_dO : ∀ o, imm (dO o) = true
  | none => rfl
  | some b => imm_dC b
section
variable {P : Program} {w : World} {K : PySem.W.Frag} {mg : Str → Option Value} {base : Heap}
def spCwo : Sp := fun vs H Q _ => ∃ (a b : Addr) (Ws : Cse) (cs os : List Cse), vs = [.ref a, .ref b] ∧ Rp H (.ref a) (.list (cs.map dC)) ∧ Rp H (.ref b) (.list (os.map dC)) ∧ COk Ws ∧ Cs Ws cs ∧ (∀ o ∈ os, VC Ws o) ∧ ∀ (p : Addr) (H' : Hp), Same H H' → (H p = none ∨ p = a) → Rp H' (.ref p) (.list ((cwoM cs os).map dC)) → Q (.ref p) H'
theorem ok_cwo {f fW : Addr} {fd fdW : FuncData} {k : Nat} (F : Fun K "cases_without" "cases_without" sCwo f fd) (FW : Fun K "without" "without" sWithout fW fdW) (bW : Binds K fdW ["one", "other"] []) (gW : mg "without" = some (.ref fW)) (GW : FnOk P w K mg base CX0 (k + 3) fW fdW ["one", "other"] spWithout) : FnOk P w K mg base CX0 (k + 4) f fd ["cases", "others"] spCwo := by
  refine F.ok scCwo (fun vs H Q E h => ?_) (fun cdv A outer s H vs Q E hr h => ?_)
  · obtain ⟨a, b, Ws, cs, os, rfl, _⟩ := h
    rfl
  · obtain ⟨a, b, Ws, cs, os, rfl, ha, hb, hW, hcs, hos, q⟩ := h
    refine ⟨_, pss_cons (ps_for PassesOwn.never rfl (pi_list (pv 1)) (pg_name (i := 2) scCwo.nd rfl (.inr rfl))
        (pss_one (ps_setLc2 (i := 0) (own := [("case", 3), ("rest", 4)]) (vs1 := [4]) (g := gName 3) (tt := tYes) (wi1 := iList K (tCall spWithout [] E0 (tCons (tVar 3) (tCons (tVar 2) tNil)))) (g1 := gName 4) (tt1 := tYes) (te := tVar 4) rfl scCwo.nd rfl rfl (sw_true rfl rfl rfl (by decide +kernel)) (pi_list (pv 0)) (blkOk_by (N := nCwo) (sc := defScope sCwo) (by decide +kernel)) (by decide)
          (fun _ _ _ _ _ => pg_name (i := 3) scCwo.nd rfl (.inl rfl)) (fun _ _ _ _ _ => pts_nil) (fun _ _ _ _ _ => pi_list (pe_call GW hr (by rfl) gW FW.kp bW .nil pass0 (pa_cons (pv 3) (pa_cons (pv 2) pa_nil)))) (fun _ _ _ _ _ => pg_name (i := 4) scCwo.nd rfl (.inl rfl)) (fun _ _ _ _ _ => pts_nil)
          (fun _ _ _ _ _ => pv 4))))
      (pss_one (ps_ret (pv 0))), ?_⟩
    obtain ⟨xs, ha, hx⟩ := ha.lst_inv
    obtain ⟨ys, hb, hy⟩ := hb.lst_inv
    have hlen := hy.length
    rw [List.length_map] at hlen
    refine ⟨.ref b, rfl, b, rfl, ⟨ys, SqL.of hb⟩, ?_⟩
    refine for_it (walk_list (xs := ys)) (fun i σ H3 => ∃ (y2 : Option V) (l : Addr) (us : List V), σ = [some (.ref l), some (.ref b), y2, none, none] ∧ Same H H3 ∧ (H l = none ∨ l = a) ∧ H3 l = some (.lst us) ∧ RpAll H3 us ((cwoM cs (os.take i)).map dC)) ?_ ?_ ?_ ?_
    · exact ⟨none, a, xs, rfl, Same.refl H, .inr rfl, ha, hx⟩
    · rintro i σ H3 _ ⟨y2, l, us, rfl, s3, _⟩
      exact SqL.of (s3 _ _ hb)
    · rintro i x σ H4 H3 hi ⟨y2, l, us, rfl, s3, nl, d3, r3⟩ ⟨rfl, fx⟩
      obtain ⟨d, hd, hxo⟩ := hy.get fx
      have hio : i < os.length := by omega
      rw [List.getElem?_map, List.getElem?_eq_getElem hio] at hd
      cases hd
      have hxo := hxo.same s3
      have hcur := (cs_cwo hcs (os := os.take i) fun o ho => hos o (List.mem_of_mem_take ho)).1
      have hvo := hos _ (List.getElem_mem hio)
      have estep : cwoM cs (os.take (i + 1)) = lessM (cwoM cs (os.take i)) os[i] := by
        unfold cwoM
        rw [List.take_succ_eq_append_getElem hio, List.foldl_append]
        rfl
      generalize hss : cwoM cs (os.take i) = ss at *
      have hfew := hcur.few hW
      have hlu := r3.length
      rw [List.length_map] at hlu
      have h4 : ∀ c ∈ ss, (withoutM c os[i]).length ≤ 4 := fun c hc => without_len ((hcur.1 c hc).ok hW)
      refine ⟨.ref l, rfl, l, rfl, ⟨us, SqL.of d3⟩, fun D nD => ?_⟩
      have nDH : H D = none := s3.free nD
      refine out_it (walk_list (xs := us)) (fun j H5 => ∃ ts : List V, Same H3 H5 ∧ H5 D = some (.lst ts) ∧ RpAll H5 ts (((ss.take j).flatMap fun c => withoutM c os[i]).map dC)) ⟨[], same_upd nD, upd_same, .nil⟩ ?_ ?_ ?_
      · rintro j H5 _ ⟨ts, s5, _⟩
        exact SqL.of (s5 _ _ d3)
      · rintro j y H6 H5 hj ⟨ts, s5, d5, r5⟩ ⟨rfl, fy⟩
        obtain ⟨dd, hdd, hx2⟩ := r3.get fy
        have hjs : j < ss.length := by omega
        rw [List.getElem?_map, List.getElem?_eq_getElem hjs] at hdd
        cases hdd
        have hvc := hcur.1 _ (List.getElem_mem hjs)
        refine ⟨rfl, y, rfl, x, rfl, y, x, ss[j], os[i], rfl, hx2.same s5, hxo.same s5, hvc.ok hW, by rw [hvc.len, hvo.len], fun p H7 s7 np hp => ?_⟩
        obtain ⟨zs, hp, hz⟩ := hp.lst_inv
        have hzl := hz.length
        rw [List.length_map] at hzl
        refine ⟨p, rfl, ⟨zs, SqL.of hp⟩, ?_⟩
        have npD : p ≠ D := fun e => by
          subst e
          rw [d5] at np
          cases np
        refine out_it (walk_list (xs := zs)) (fun m H8 => ∃ ts : List V, Same H3 H8 ∧ H8 p = some (.lst zs) ∧ RpAll H8 zs ((withoutM ss[j] os[i]).map dC) ∧ H8 D = some (.lst ts) ∧ RpAll H8 ts ((((ss.take j).flatMap fun c => withoutM c os[i]) ++ (withoutM ss[j] os[i]).take m).map dC)) ⟨ts, Same.trans s5 s7, hp, hz, s7 _ _ d5, ?_⟩ ?_ ?_ ?_
        · rw [List.take_zero, List.append_nil]
          exact r5.same s7
        · rintro m H8 _ ⟨ts, s8, p8, _⟩
          exact SqL.of p8
        · rintro m z H9 H8 hm ⟨ts, s8, p8, z8, d8, r8⟩ ⟨rfl, fz⟩
          obtain ⟨d9, hd9, hx9⟩ := z8.get fz
          have hmw : m < (withoutM ss[j] os[i]).length := by omega
          rw [List.getElem?_map, List.getElem?_eq_getElem hmw] at hd9
          cases hd9
          have hts := r8.length
          have hf1 := flat_le (fun c => withoutM c os[i]) 4 (ss.take j) fun c hc => h4 c (List.mem_of_mem_take hc)
          have hf2 := h4 _ (List.getElem_mem hjs)
          rw [List.length_map, List.length_append, List.length_take] at hts
          rw [List.length_take] at hf1
          have kT : KeepT H8 (upd H8 D (.lst (ts ++ [z]))) := keepT_lst d8
          refine ⟨rfl, z, rfl, ts, d8, smallM (by omega), ts ++ [z], same_add nD s8, ?_, ?_, upd_same, ?_⟩
          · rw [upd_ne npD]
            exact p8
          · exact z8.keep kT (immAll_map imm_dC _)
          · rw [List.take_succ_eq_append_getElem hmw, ← List.append_assoc]
            exact RpAll.add imm_dC d8 r8 hx9
        · rintro H8 ⟨ts, s8, p8, z8, d8, r8⟩
          refine ⟨ts, s8, d8, ?_⟩
          rw [flat_succ _ _ _ hjs]
          rw [hzl, List.take_length] at r8
          exact r8
      · rintro H5 ⟨ts, s5, d5, r5⟩
        refine ⟨some x, D, ts, rfl, Same.trans s3 s5, .inl nDH, d5, ?_⟩
        rw [estep]
        rw [hlu, List.take_length] at r5
        exact r5
    · rintro σ H3 ⟨y2, l, us, rfl, s3, nl, d3, r3⟩
      rw [hlen, List.take_length] at r3
      exact ⟨.ref l, rfl, q _ _ s3 nl (.lst d3 r3)⟩
def spCic : Sp := fun vs H Q _ => ∃ (a b : Addr) (Ws : Cse) (cs os : List Cse), vs = [.ref a, .ref b] ∧ Rp H (.ref a) (.list (cs.map dC)) ∧ Rp H (.ref b) (.list (os.map dC)) ∧ COk Ws ∧ Cs Ws cs ∧ Cs Ws os ∧ ∀ (p : Addr) (H' : Hp), Same H H' → H p = none → Rp H' (.ref p) (.list ((cicM cs os).map dC)) → Q (.ref p) H'
theorem ok_cic {f fC : Addr} {fd fdC : FuncData} {k : Nat} (F : Fun K "cases_in_common" "cases_in_common" sCic f fd) (FC : Fun K "common" "common" sCommon fC fdC) (bC : Binds K fdC ["one", "other"] []) (gC : mg "common" = some (.ref fC)) (GC : FnOk P w K mg base CX0 (k + 2) fC fdC ["one", "other"] spCommon) : FnOk P w K mg base CX0 (k + 3) f fd ["cases", "others"] spCic := by
  refine F.ok scCic (fun vs H Q E h => ?_) (fun cdv A outer s H vs Q E hr h => ?_)
  · obtain ⟨a, b, Ws, cs, os, rfl, _⟩ := h
    rfl
  · obtain ⟨a, b, Ws, cs, os, rfl, ha, hb, hW, hcs, hos, q⟩ := h
    refine ⟨_, pss_cons (ps_setLc2 (i := 2) (own := [("case", 3), ("other", 4)]) (vs1 := [4]) (g := gName 3) (tt := tYes) (wi1 := iList K (tVar 1)) (g1 := gName 4) (tt1 := tYes) (te := tCall spCommon [] E0 (tCons (tVar 3) (tCons (tVar 4) tNil))) rfl scCic.nd rfl rfl (sw_true rfl rfl rfl (by decide +kernel)) (pi_list (pv 0)) (blkOk_by (N := nCic) (sc := defScope sCic) (by decide +kernel)) (by decide)
          (fun _ _ _ _ _ => pg_name (i := 3) scCic.nd rfl (.inl rfl)) (fun _ _ _ _ _ => pts_nil) (fun _ _ _ _ _ => pi_list (pv 1)) (fun _ _ _ _ _ => pg_name (i := 4) scCic.nd rfl (.inl rfl)) (fun _ _ _ _ _ => pts_nil)
          (fun _ _ _ _ _ => pe_call GC hr (by rfl) gC FC.kp bC .nil pass0 (pa_cons (pv 3) (pa_cons (pv 4) pa_nil))))
      (pss_one (ps_ret (pe_lc (own := [("case", 3)]) (g := gName 3) (tt := tTest (tOp (fun x y H Q => y = .non ∧ Q (.bl (!decide (x = .non))) H) (tVar 3) (tC .non))) (te := tVar 3) rfl scCic.nd (pi_list (pv 2)) (blkOk_by (N := nCic) (sc := defScope sCic) (by decide +kernel))
          (fun _ _ _ _ _ => pg_name (i := 3) scCic.nd rfl (.inl rfl)) (fun _ _ _ _ _ => pts_one (pt_cmpR op_notN (pv 3) pe_non (nomark _))) (fun _ _ _ _ _ => pv 3)))), ?_⟩
    obtain ⟨xs, ha, hx⟩ := ha.lst_inv
    obtain ⟨ys, hb, hy⟩ := hb.lst_inv
    have hlx := hx.length
    have hly := hy.length
    rw [List.length_map] at hlx hly
    have hf1 := hcs.few hW
    have hf2 := hos.few hW
    refine ⟨.ref a, rfl, a, rfl, ⟨xs, SqL.of ha⟩, fun D nD => ?_⟩
    have hrow : ∀ c ∈ cs, (os.map fun o => commonM c o).length ≤ 256 := fun c _ => by rw [List.length_map]; exact hf2
    refine out_it (walk_list (xs := xs)) (fun j H5 => ∃ ts : List V, Same H H5 ∧ H5 D = some (.lst ts) ∧ RpAll H5 ts (((cs.take j).flatMap fun c => os.map fun o => commonM c o).map dO)) ⟨[], same_upd nD, upd_same, .nil⟩ ?_ ?_ ?_
    · rintro j H5 _ ⟨ts, s5, _⟩
      exact SqL.of (s5 _ _ ha)
    · rintro j y H6 H5 hj ⟨ts, s5, d5, r5⟩ ⟨rfl, fy⟩
      obtain ⟨dd, hdd, hx2⟩ := hx.get fy
      have hjs : j < cs.length := by omega
      rw [List.getElem?_map, List.getElem?_eq_getElem hjs] at hdd
      cases hdd
      have hvc := hcs.1 _ (List.getElem_mem hjs)
      refine ⟨rfl, .ref b, rfl, b, rfl, ⟨ys, SqL.of (s5 _ _ hb)⟩, ?_⟩
      refine out_it (walk_list (xs := ys)) (fun m H8 => ∃ ts : List V, Same H H8 ∧ H8 D = some (.lst ts) ∧ RpAll H8 ts ((((cs.take j).flatMap fun c => os.map fun o => commonM c o) ++ ((os.take m).map fun o => commonM cs[j] o)).map dO)) ⟨ts, s5, d5, ?_⟩ ?_ ?_ ?_
      · rw [List.take_zero, List.map_nil, List.append_nil]
        exact r5
      · rintro m H8 _ ⟨ts, s8, _⟩
        exact SqL.of (s8 _ _ hb)
      · rintro m z H9 H8 hm ⟨ts, s8, d8, r8⟩ ⟨rfl, fz⟩
        obtain ⟨d9, hd9, hx9⟩ := hy.get fz
        have hmo : m < os.length := by omega
        rw [List.getElem?_map, List.getElem?_eq_getElem hmo] at hd9
        cases hd9
        have hvo := hos.1 _ (List.getElem_mem hmo)
        have hts := r8.length
        have hf3 := flat_le (fun c => os.map fun o => commonM c o) 256 (cs.take j) fun c hc => hrow c (List.mem_of_mem_take hc)
        rw [List.length_map, List.length_append, List.length_map, List.length_take] at hts
        rw [List.length_take] at hf3
        have hf4 : min j cs.length * 256 ≤ 256 * 256 := Nat.mul_le_mul_right _ (by omega)
        refine ⟨rfl, y, rfl, z, rfl, y, z, cs[j], os[m], rfl, hx2.same s8, hx9.same s8, hvc.ok hW, by rw [hvc.len, hvo.len], fun r H10 s10 hr10 => ?_⟩
        have d10 := s10 _ _ d8
        refine ⟨ts, d10, smallM (by omega), ts ++ [r], same_add nD (Same.trans s8 s10), upd_same, ?_⟩
        rw [show (os.take (m + 1)).map (fun o => commonM cs[j] o) = (os.take m).map (fun o => commonM cs[j] o) ++ [commonM cs[j] os[m]] by rw [List.take_succ_eq_append_getElem hmo, List.map_append]; rfl, ← List.append_assoc]
        exact RpAll.add imm_dO d10 (r8.same s10) hr10
      · rintro H8 ⟨ts, s8, d8, r8⟩
        refine ⟨ts, s8, d8, ?_⟩
        rw [flat_succ _ _ _ hjs]
        rw [hly, List.take_length] at r8
        exact r8
    · rintro H5 ⟨ts, s5, d5, r5⟩
      rw [hlx, List.take_length] at r5
      have r5 : RpAll H5 ts ((sharedM cs os).map dO) := r5
      have hlt := r5.length
      rw [List.length_map] at hlt
      have hsh : (sharedM cs os).length ≤ 256 * 256 := Nat.le_trans (flat_le _ 256 cs hrow) (Nat.mul_le_mul_right _ hf1)
      refine ⟨.ref D, rfl, D, rfl, ⟨ts, SqL.of d5⟩, fun D2 nD2 => ?_⟩
      refine lc_it (walk_list (xs := ts)) (fun i H6 => ∃ us : List V, Same H5 H6 ∧ H6 D2 = some (.lst us) ∧ RpAll H6 us ((((sharedM cs os).take i).filterMap id).map dC)) ⟨[], same_upd nD2, upd_same, .nil⟩ (fun i H6 _ h6 => let ⟨_, s6, _⟩ := h6; SqL.of (s6 _ _ d5)) ?_ ?_
      · rintro i x H7 H6 hi ⟨us, s6, d6, r6⟩ ⟨rfl, fx⟩
        obtain ⟨dd, hdd, hx2⟩ := r5.get fx
        have his : i < (sharedM cs os).length := by omega
        rw [List.getElem?_map, List.getElem?_eq_getElem his] at hdd
        cases hdd
        have hx2 := hx2.same s6
        have hul := r6.length
        rw [List.length_map] at hul
        have hfl := List.length_filterMap_le id ((sharedM cs os).take i)
        rw [List.length_take] at hfl
        rw [List.take_succ_eq_append_getElem his, List.filterMap_append]
        refine ⟨rfl, _, rfl, ⟨rfl, _, rfl, ?_⟩⟩
        generalize (sharedM cs os)[i] = o at hx2 ⊢
        cases o with
        | none =>
          cases hx2
          refine ⟨us, s6, d6, ?_⟩
          rw [show [(none : Option Cse)].filterMap id = [] from rfl, List.append_nil]
          exact r6
        | some c =>
          have hx2 : Rp H6 x (dC c) := hx2
          obtain ⟨g, gs, rfl, hg, _⟩ := hx2.tup_inv
          refine ⟨_, rfl, us, d6, smallM (by omega), us ++ [.ref g], same_add nD2 s6, upd_same, ?_⟩
          exact RpAll.add imm_dC d6 r6 hx2
      · rintro H6 ⟨us, s6, d6, r6⟩
        rw [hlt, List.take_length] at r6
        exact q _ _ (Same.trans s5 s6) (s5.free nD2) (.lst d6 r6)
end
end Sg

namespace Sg
open PySem PySem.Spec PyProof.Rows L2
abbrev sCases : Stmt := topS 14
abbrev nCases : List Str := ["facets", "when", "word", "whole", "at", "first", "second"]
theorem scCases : FnScope nCases ["facets", "when"] (defScope sCases) := ⟨rfl, rfl, rfl, by decide +kernel, rfl, by decide +kernel, by decide +kernel⟩
section
variable {P : Program} {w : World} {K : PySem.W.Frag} {mg : Str → Option Value} {base : Heap}
def spCases (n : Nat) : Sp := fun vs H Q _ => ∃ (fv wv : V) (fs : List (Str × List Str)) (wn : Wn), vs = [fv, wv] ∧ Rp H fv (dF fs) ∧ Rp H wv (dN wn) ∧ FOk fs ∧ (fs.map (·.1)).Nodup ∧ fs.length ≤ 4 ∧ WOk fs wn ∧ dep wn ≤ n ∧ ∀ (p : Addr) (H' : Hp), Same H H' → H p = none → Rp H' (.ref p) (.list ((casesM fs wn).map dC)) → Q (.ref p) H'
theorem ok_cases {f fP fH fO fI : Addr} {fd fdP fdH fdO fdI : FuncData} (F : Fun K "cases_of" "cases_of" sCases f fd) (b : Binds K fd ["facets", "when"] []) (g : mg "cases_of" = some (.ref f))
    (FP : Fun K "place_of" "place_of" sPlace fP fdP) (bP : Binds K fdP ["facets", "facet"] []) (gP : mg "place_of" = some (.ref fP))
    (FH : Fun K "whole_case" "whole_case" sWhole fH fdH) (bH : Binds K fdH ["facets"] []) (gH : mg "whole_case" = some (.ref fH)) (mt : mg "tuple" = none)
    (FO : Fun K "cases_without" "cases_without" sCwo fO fdO) (bO : Binds K fdO ["cases", "others"] []) (gO : mg "cases_without" = some (.ref fO)) (GOs : ∀ k, FnOk P w K mg base CX0 (k + 4) fO fdO ["cases", "others"] spCwo)
    (FI : Fun K "cases_in_common" "cases_in_common" sCic fI fdI) (bI : Binds K fdI ["cases", "others"] []) (gI : mg "cases_in_common" = some (.ref fI)) (GIs : ∀ k, FnOk P w K mg base CX0 (k + 3) fI fdI ["cases", "others"] spCic) :
    ∀ n, FnOk P w K mg base CX0 (n + 5) f fd ["facets", "when"] (spCases n) := by
  intro n
  induction n with
  | zero => exact ⟨fun _ _ _ _ ⟨_, _, _, wn, _, _, _, _, _, _, _, hd, _⟩ => absurd hd (by have := dep_pos wn; omega), fun _ _ _ _ _ _ _ _ _ _ _ _ _ ⟨_, _, _, wn, _, _, _, _, _, _, _, hd, _⟩ => absurd hd (by have := dep_pos wn; omega)⟩
  | succ n ih =>
    have GP : FnOk P w K mg base CX0 (n + 5) fP fdP ["facets", "facet"] spPlace := ok_place FP
    have GH : FnOk P w K mg base CX0 (n + 5) fH fdH ["facets"] spWhole := ok_whole FH mt
    have GO : FnOk P w K mg base CX0 (n + 5) fO fdO ["cases", "others"] spCwo := GOs (n + 1)
    have GI : FnOk P w K mg base CX0 (n + 5) fI fdI ["cases", "others"] spCic := GIs (n + 2)
    refine F.ok scCases (fun vs H Q E h => ?_) (fun cdv A outer s H vs Q E hr h => ?_)
    · obtain ⟨fv, wv, fs, wn, rfl, _⟩ := h
      rfl
    · obtain ⟨fv, wv, fs, wn, rfl, hf, hw, hfo, hnd, hfl, hok, hd, q⟩ := h
      refine ⟨_, pss_cons (ps_set (i := 2) scCases.nd rfl (.inl rfl) (pe_ix ix_tup (pv 1) pe_int (fun _ _ => rfl)))
        (pss_cons (ps_set (i := 3) scCases.nd rfl (.inl rfl) (pe_call GH hr (by rfl) gH FH.kp bH .nil pass0 (pa_cons (pv 0) pa_nil)))
        (pss_cons (ps_if (pt_cmpR op_eq (pv 2) pe_str (nomark _)) (pss_one (ps_ret (pe_lst (pa_cons (pv 3) pa_nil)))) pss_nil)
        (pss_cons (ps_if (pt_cmpR op_eq (pv 2) pe_str (nomark _)) (pss_cons (ps_set (i := 4) scCases.nd rfl (.inl rfl) (pe_call GP hr (by rfl) gP FP.kp bP .nil pass0 (pa_cons (pv 0) (pa_cons (pe_ix ix_tup (pv 1) pe_int (fun _ _ => rfl)) pa_nil))))
          (pss_one (ps_ret (pe_lst (pa_cons (pe_op op_catA (pe_op op_catA (pe_slice sl_tupA (pv 3) po_none (po_some (pv 4))) (pe_tup (pa_cons (pe_ix ix_tup (pv 1) pe_int (fun _ _ => rfl)) pa_nil))) (pe_slice sl_tupA (pv 3) (po_some (pe_op op_add (pv 4) pe_int)) po_none)) pa_nil))))) pss_nil)
        (pss_cons (ps_set (i := 5) scCases.nd rfl (.inl rfl) (pe_call ih hr (by rfl) g F.kp b .nil pass0 (pa_cons (pv 0) (pa_cons (pe_ix ix_tup (pv 1) pe_int (fun _ _ => rfl)) pa_nil))))
        (pss_cons (ps_if (pt_cmpR op_eq (pv 2) pe_str (nomark _)) (pss_one (ps_ret (pe_call GO hr (by rfl) gO FO.kp bO .nil pass0 (pa_cons (pe_lst (pa_cons (pv 3) pa_nil)) (pa_cons (pv 5) pa_nil))))) pss_nil)
        (pss_cons (ps_set (i := 6) scCases.nd rfl (.inl rfl) (pe_call ih hr (by rfl) g F.kp b .nil pass0 (pa_cons (pv 0) (pa_cons (pe_ix ix_tup (pv 1) pe_int (fun _ _ => rfl)) pa_nil))))
        (pss_cons (ps_if (pt_cmpR op_eq (pv 2) pe_str (nomark _)) (pss_one (ps_ret (pe_call GI hr (by rfl) gI FI.kp bI .nil pass0 (pa_cons (pv 5) (pa_cons (pv 6) pa_nil))))) pss_nil)
        (pss_one (ps_ret (pe_op op_cat (pv 5) (pe_call GO hr (by rfl) gO FO.kp bO .nil pass0 (pa_cons (pv 6) (pa_cons (pv 5) pa_nil))))))))))))), ?_⟩
      have hW := COk.of hfo hfl
      have hcok := cases_ok hfo hnd
      cases wn with
      | always =>
        obtain ⟨a, xs, rfl, ha, hx⟩ := hw.tup_inv
        obtain ⟨v1, rfl, h1⟩ := hx.one
        have h1 := h1.str_inv
        subst h1
        refine ⟨.ref a, rfl, a, _, 0, _, rfl, rfl, SqT.of ha, rfl, fv, rfl, fv, fs, rfl, hf, hfl, fun wv1 H1 s1 h1 => ?_⟩
        refine ⟨_, rfl, rfl, _, rfl, ?_⟩
        refine ⟨wv1, rfl, by show 1 ≤ sizeLine; decide, fun p np => ?_⟩
        exact q p _ (Same.trans s1 (same_upd np)) (s1.free np) (.lst upd_same (.cons (h1.same (same_upd np)) .nil))
      | is fc ws =>
        obtain ⟨a, xs, rfl, ha, hx⟩ := hw.tup_inv
        obtain ⟨v1, v2, v3, rfl, h1, h2, h3⟩ := hx.three
        have h1 := h1.str_inv
        have h2 := h2.str_inv
        subst h1 h2
        obtain ⟨c, rfl, hc⟩ := h3.dW_inv
        obtain ⟨hp1, hp2, hp3⟩ := place_ok fs fc hok.1
        refine ⟨.ref a, rfl, a, _, 0, _, rfl, rfl, SqT.of ha, rfl, fv, rfl, fv, fs, rfl, hf, hfl, fun wv1 H1 s1 h1 => ?_⟩
        obtain ⟨e1, ys, rfl, he1, hys⟩ := h1.tup_inv
        have hyl := hys.length
        rw [List.length_map, List.length_map] at hyl
        refine ⟨_, rfl, rfl, _, rfl, ?_⟩
        refine ⟨_, rfl, rfl, _, rfl, ?_⟩
        refine ⟨fv, rfl, .ref a, rfl, a, _, 1, _, rfl, rfl, SqT.of (s1 _ _ ha), rfl, fv, fc, fs, rfl, hf.same s1, hok.1, by omega, fun H2 s2 => ?_⟩
        have s12 := Same.trans s1 s2
        generalize hi : placeM fs fc = i at *
        refine ⟨.ref e1, rfl, .int (i : Nat), rfl, (i : Int), rfl, slA_use (s2 _ _ he1) fun r1 H7 s7 e7 => ?_⟩
        rw [cut_take _ _ (by omega)] at e7
        have s17 := Same.trans s12 s7
        refine ⟨.ref a, rfl, a, _, 2, _, rfl, rfl, SqT.of (s17 _ _ ha), rfl, by show 1 ≤ sizeLine; decide, fun p np => ?_⟩
        have s8 : Same H7 (upd H7 p (.tup [.ref c])) := same_upd np
        refine catA_use (s8 _ _ e7) upd_same (by rw [List.length_take]; simp; omega) fun r2 H9 s9 e9 => ?_
        have s10 := Same.trans s8 s9
        have s29 := Same.trans s7 s10
        refine ⟨.ref e1, rfl, .int (i : Nat), rfl, (i : Int), 1, rfl, rfl, ((i + 1 : Nat) : Int), rfl, ?_⟩
        dsimp only [tNoPart]
        refine slA_use (s29 _ _ (s2 _ _ he1)) fun r3' H11 s11 e11 => ?_
        rw [cut_drop _ _ (by omega)] at e11
        have hsz : (ys.drop (i + 1)).length ≤ 4 := by rw [List.length_drop]; omega
        refine catA_use (s11 _ _ e9) e11 (by rw [List.length_append, List.length_take]; simp; omega) fun r4 H12 s12' e12 => ?_
        have sB := Same.trans (Same.trans s29 s11) s12'
        have sA := Same.trans s12 sB
        refine ⟨by show 1 ≤ sizeLine; decide, fun p2 np2 => ?_⟩
        have sL := same_upd (o := .lst [.ref r4]) np2
        refine q p2 _ (Same.trans sA sL) (sA.free np2) (.lst upd_same (.cons ?_ .nil))
        refine Rp.same sL ?_
        show Rp H12 (.ref r4) (dC (partM fs fc ws))
        unfold partM
        rw [hi]
        exact .tup e12 (RpAll.piece i (hys.same (Same.trans s2 sB)) (hys.same (Same.trans s2 sB)) (sA _ _ hc))
      | nt w1 =>
        obtain ⟨a, xs, rfl, ha, hx⟩ := hw.tup_inv
        obtain ⟨v1, v2, rfl, h1, h2⟩ := hx.two
        have h1 := h1.str_inv
        subst h1
        refine ⟨.ref a, rfl, a, _, 0, _, rfl, rfl, SqT.of ha, rfl, fv, rfl, fv, fs, rfl, hf, hfl, fun wv1 H1 s1 h1 => ?_⟩
        refine ⟨_, rfl, rfl, _, rfl, ?_⟩
        refine ⟨_, rfl, rfl, _, rfl, ?_⟩
        refine ⟨fv, rfl, .ref a, rfl, a, _, 1, _, rfl, rfl, SqT.of (s1 _ _ ha), rfl, fv, v2, fs, w1, rfl, hf.same s1, h2.same s1, hfo, hnd, hfl, hok, Nat.le_of_succ_le_succ hd, fun p1 H2 s2 np1 hp1 => ?_⟩
        refine ⟨_, rfl, rfl, _, rfl, ?_⟩
        refine ⟨wv1, rfl, by show 1 ≤ sizeLine; decide, fun p np => ?_⟩
        have s3 : Same H2 (upd H2 p (.lst [wv1])) := same_upd np
        have s12 := Same.trans s1 s2
        refine ⟨.ref p1, rfl, p, p1, fs.map (·.2), [fs.map (·.2)], casesM fs w1, rfl, .lst upd_same (.cons (h1.same (Same.trans s2 s3)) .nil), hp1.same s3, hW, Cs.one (VC.whole hfo), (hcok w1 hok).1.1, fun p2 H4 s4 fr hp2 => ?_⟩
        refine q p2 _ (Same.trans s12 (Same.trans s3 s4)) ?_ hp2
        rcases fr with z | z
        · exact (Same.trans s12 s3).free z
        · rw [z]
          exact s12.free np
      | both w1 w2 =>
        obtain ⟨a, xs, rfl, ha, hx⟩ := hw.tup_inv
        obtain ⟨v1, v2, v3, rfl, h1, h2, h3⟩ := hx.three
        have h1 := h1.str_inv
        subst h1
        have hd' : max (dep w1) (dep w2) ≤ n := Nat.le_of_succ_le_succ hd
        refine ⟨.ref a, rfl, a, _, 0, _, rfl, rfl, SqT.of ha, rfl, fv, rfl, fv, fs, rfl, hf, hfl, fun wv1 H1 s1 h1 => ?_⟩
        refine ⟨_, rfl, rfl, _, rfl, ?_⟩
        refine ⟨_, rfl, rfl, _, rfl, ?_⟩
        refine ⟨fv, rfl, .ref a, rfl, a, _, 1, _, rfl, rfl, SqT.of (s1 _ _ ha), rfl, fv, v2, fs, w1, rfl, hf.same s1, h2.same s1, hfo, hnd, hfl, hok.1, by omega, fun p1 H2 s2 np1 hp1 => ?_⟩
        refine ⟨_, rfl, rfl, _, rfl, ?_⟩
        have s12 := Same.trans s1 s2
        refine ⟨fv, rfl, .ref a, rfl, a, _, 2, _, rfl, rfl, SqT.of (s12 _ _ ha), rfl, fv, v3, fs, w2, rfl, hf.same s12, h3.same s12, hfo, hnd, hfl, hok.2, by omega, fun p2 H3 s3 np2 hp2 => ?_⟩
        refine ⟨_, rfl, rfl, _, rfl, ?_⟩
        have s13 := Same.trans s12 s3
        refine ⟨.ref p1, rfl, .ref p2, rfl, p1, p2, fs.map (·.2), casesM fs w1, casesM fs w2, rfl, hp1.same s3, hp2, hW, (hcok w1 hok.1).1, (hcok w2 hok.2).1, fun p H4 s4 np hp => ?_⟩
        exact q p _ (Same.trans s13 s4) (s13.free np) hp
      | either w1 w2 =>
        obtain ⟨a, xs, rfl, ha, hx⟩ := hw.tup_inv
        obtain ⟨v1, v2, v3, rfl, h1, h2, h3⟩ := hx.three
        have h1 := h1.str_inv
        subst h1
        have hd' : max (dep w1) (dep w2) ≤ n := Nat.le_of_succ_le_succ hd
        refine ⟨.ref a, rfl, a, _, 0, _, rfl, rfl, SqT.of ha, rfl, fv, rfl, fv, fs, rfl, hf, hfl, fun wv1 H1 s1 h1 => ?_⟩
        refine ⟨_, rfl, rfl, _, rfl, ?_⟩
        refine ⟨_, rfl, rfl, _, rfl, ?_⟩
        refine ⟨fv, rfl, .ref a, rfl, a, _, 1, _, rfl, rfl, SqT.of (s1 _ _ ha), rfl, fv, v2, fs, w1, rfl, hf.same s1, h2.same s1, hfo, hnd, hfl, hok.1, by omega, fun p1 H2 s2 np1 hp1 => ?_⟩
        refine ⟨_, rfl, rfl, _, rfl, ?_⟩
        have s12 := Same.trans s1 s2
        refine ⟨fv, rfl, .ref a, rfl, a, _, 2, _, rfl, rfl, SqT.of (s12 _ _ ha), rfl, fv, v3, fs, w2, rfl, hf.same s12, h3.same s12, hfo, hnd, hfl, hok.2, by omega, fun p2 H3 s3 np2 hp2 => ?_⟩
        refine ⟨_, rfl, rfl, _, rfl, ?_⟩
        have s13 := Same.trans s12 s3
        have hA := hcok w1 hok.1
        have hB := hcok w2 hok.2
        refine ⟨.ref p1, rfl, .ref p2, rfl, .ref p1, rfl, p2, p1, fs.map (·.2), casesM fs w2, casesM fs w1, rfl, hp2, hp1.same s3, hW, hB.1, hA.1.1, fun p3 H4 s4 fr hp3 => ?_⟩
        obtain ⟨us1, hu1, hr1⟩ := (hp1.same (Same.trans s3 s4)).lst_inv
        obtain ⟨us3, hu3, hr3⟩ := hp3.lst_inv
        have l1 := hr1.length
        have l3 := hr3.length
        rw [List.length_map] at l1 l3
        have f1 := hA.1.few hW
        have f3 := ((cs_cwo hB.1 hA.1.1).1).few hW
        refine ⟨p1, p3, us1, us3, rfl, rfl, hu1, hu3, sz _ (by omega), fun p np => ?_⟩
        have s14 := Same.trans s13 s4
        refine q p _ (Same.trans s14 (same_upd np)) (s14.free np) (.lst upd_same ?_)
        show RpAll _ (us1 ++ us3) ((casesM fs w1 ++ cwoM (casesM fs w2) (casesM fs w1)).map dC)
        rw [List.map_append]
        exact (hr1.same (same_upd np)).append (hr3.same (same_upd np))
end
end Sg

namespace Sg
open PySem PySem.Spec PyProof.Rows L2
/-! ### settings rise -/
def ltLb : List Str → List Str → Bool
  | [], [] => false
  | [], _ :: _ => true
  | _ :: _, [] => false
  | a :: s, b :: t => decide (ltS a b) || (decide (a = b) && ltLb s t)
theorem ltLb_irrefl : ∀ s, ltLb s s = false
  | [] => rfl
  | a :: s => by
    show (decide (ltS a a) || (decide (a = a) && ltLb s s)) = false
    rw [ltLb_irrefl s, decide_eq_false (ltS_irrefl a)]
    simp
theorem ltLb_trans : ∀ {a b c : List Str}, ltLb a b = true → ltLb b c = true → ltLb a c = true
  | [], [], _, h, _ => by simp [ltLb] at h
  | [], _ :: _, [], _, h => by simp [ltLb] at h
  | [], _ :: _, _ :: _, _, _ => rfl
  | _ :: _, [], _, h, _ => by simp [ltLb] at h
  | _ :: _, _ :: _, [], _, h => by simp [ltLb] at h
  | a :: s, b :: t, c :: u, h1, h2 => by
    simp only [ltLb, Bool.or_eq_true, Bool.and_eq_true, decide_eq_true_eq] at h1 h2 ⊢
    rcases h1 with h1 | ⟨rfl, h1⟩
    · rcases h2 with h2 | ⟨rfl, h2⟩
      · exact .inl (ltS_trans h1 h2)
      · exact .inl h1
    · rcases h2 with h2 | ⟨rfl, h2⟩
      · exact .inl h2
      · exact .inr ⟨rfl, ltLb_trans h1 h2⟩
theorem ltLb_tri : ∀ (a b : List Str), ltLb a b = true ∨ a = b ∨ ltLb b a = true
  | [], [] => .inr (.inl rfl)
  | [], _ :: _ => .inl rfl
  | _ :: _, [] => .inr (.inr rfl)
  | a :: s, b :: t => by
    by_cases e : a = b
    · subst e
      rcases ltLb_tri s t with h | h | h
      · exact .inl (by simp [ltLb, h])
      · exact .inr (.inl (by rw [h]))
      · exact .inr (.inr (by simp [ltLb, h]))
    · by_cases h : ltS b a
      · exact .inr (.inr (by simp [ltLb, h]))
      · exact .inl (by simp [ltLb, ltS_or h e])
theorem rowLt_strs : ∀ xs ys : List Str, PySem.W.rowLt (xs.map .str) (ys.map .str) = ltLb xs ys
  | [], [] => PyProof.Rows.lex_irrefl _
  | [], y :: ys => by
    show PySem.W.rowLt [] (PyData.str y :: ys.map .str) = true
    unfold PySem.W.rowLt
    rw [PySem.W.toks_all_cons]
    simp only [PySem.W.keyToksAll]
    rw [PyProof.Rows.lex_diff (O := itemOrd) (by simp)]
    rfl
  | x :: xs, [] => by
    show PySem.W.rowLt (PyData.str x :: xs.map .str) [] = false
    unfold PySem.W.rowLt
    rw [PySem.W.toks_all_cons]
    simp only [PySem.W.keyToksAll]
    rw [PyProof.Rows.lex_diff (O := itemOrd) (by simp)]
    rfl
  | x :: xs, y :: ys => by
    have e : PySem.W.rowLt (PyData.str x :: xs.map .str) (PyData.str y :: ys.map .str) = if (x == y) = true then PySem.W.rowLt (xs.map .str) (ys.map .str) else decide (ltS x y) := by
      unfold PySem.W.rowLt
      rw [PySem.W.dataLt_cons (by simp [PySem.W.alike]), PySem.W.dataLt_str]
      simp only [PyData.eqv]
      rfl
    show PySem.W.rowLt (PyData.str x :: xs.map .str) (PyData.str y :: ys.map .str) = (decide (ltS x y) || (decide (x = y) && ltLb xs ys))
    rw [e]
    by_cases h : x = y
    · subst h
      rw [if_pos (beq_self_eq_true x), rowLt_strs xs ys, decide_eq_false (ltS_irrefl x)]
      simp
    · rw [if_neg (fun q => h (eq_of_beq q))]
      simp [h]
theorem leW_eq (a b : List Str) : leW a b = !ltLb b a := by
  unfold leW
  rw [PySem.W.dataLe_eq]
  show (!PySem.W.dataLt (dW b) (dW a)) = _
  unfold dW
  rw [PySem.W.dataLt_tuple]
  exact congrArg _ (rowLt_strs b a)
theorem sorted_ext {α : Type} {r : α → α → Prop} (irr : ∀ a, ¬ r a a) (tr : ∀ {a b c}, r a b → r b c → r a c) : ∀ {xs ys : List α}, xs.Pairwise r → ys.Pairwise r → (∀ z, z ∈ xs ↔ z ∈ ys) → xs = ys
  | [], [], _, _, _ => rfl
  | [], y :: ys, _, _, h => absurd ((h y).mpr (List.mem_cons_self ..)) List.not_mem_nil
  | x :: xs, [], _, _, h => absurd ((h x).mp (List.mem_cons_self ..)) List.not_mem_nil
  | x :: xs, y :: ys, h1, h2, h => by
    have p1 := List.pairwise_cons.mp h1
    have p2 := List.pairwise_cons.mp h2
    have e : x = y := by
      rcases List.mem_cons.mp ((h x).mp (List.mem_cons_self ..)) with z | z
      · exact z
      · rcases List.mem_cons.mp ((h y).mpr (List.mem_cons_self ..)) with z2 | z2
        · exact z2.symm
        · exact absurd (tr (p1.1 y z2) (p2.1 x z)) (irr x)
    subst e
    congr 1
    refine sorted_ext irr tr p1.2 p2.2 fun z => ⟨fun hz => ?_, fun hz => ?_⟩
    · rcases List.mem_cons.mp ((h z).mp (List.mem_cons_of_mem _ hz)) with e | e
      · subst e
        exact absurd (p1.1 z hz) (irr z)
      · exact e
    · rcases List.mem_cons.mp ((h z).mpr (List.mem_cons_of_mem _ hz)) with e | e
      · subst e
        exact absurd (p2.1 z hz) (irr z)
      · exact e
abbrev Up (ss : List (List Str)) : Prop := ss.Pairwise fun a b => ltLb a b = true
theorem up_ext {xs ys : List (List Str)} (h1 : Up xs) (h2 : Up ys) (h : ∀ z, z ∈ xs ↔ z ∈ ys) : xs = ys :=
  sorted_ext (r := fun a b => ltLb a b = true) (fun a q => by rw [ltLb_irrefl] at q; cases q) (fun p q => ltLb_trans p q) h1 h2 h
theorem Up.nodup {ss : List (List Str)} (h : Up ss) : ss.Nodup := by
  rw [List.nodup_iff_pairwise_ne]
  refine h.imp ?_
  intro a b hab e
  subst e
  rw [ltLb_irrefl] at hab
  cases hab
theorem ltLb_same : ∀ (s u v : List Str), ltLb (s ++ u) (s ++ v) = ltLb u v
  | [], _, _ => rfl
  | a :: s, u, v => by
    show (decide (ltS a a) || (decide (a = a) && ltLb (s ++ u) (s ++ v))) = _
    rw [ltLb_same s u v, decide_eq_false (ltS_irrefl a)]
    simp
theorem ltLb_app : ∀ {s t : List Str} (u v : List Str), s.length = t.length → ltLb s t = true → ltLb (s ++ u) (t ++ v) = true
  | [], [], _, _, _, h => by simp [ltLb] at h
  | a :: s, b :: t, u, v, hl, h => by
    simp only [List.cons_append, ltLb, Bool.or_eq_true, Bool.and_eq_true, decide_eq_true_eq] at h ⊢
    rcases h with h | ⟨e, h⟩
    · exact .inl h
    · exact .inr ⟨e, ltLb_app u v (by simpa using hl) h⟩
  | [], _ :: _, _, _, hl, _ => by simp at hl
  | _ :: _, [], _, _, hl, _ => by simp at hl
theorem up_step {acc : List (List Str)} {ws : List Str} {n : Nat} (ha : Up acc) (hn : ∀ s ∈ acc, s.length = n) (hw : ws.Pairwise ltS) : Up (stepM acc ws) := by
  unfold stepM Up
  rw [List.pairwise_flatMap]
  refine ⟨fun s _ => ?_, ?_⟩
  · rw [List.pairwise_map]
    refine hw.imp ?_
    intro a b hab
    rw [ltLb_same]
    simp [ltLb, hab]
  · refine ha.imp_of_mem ?_
    intro s t hs ht hst x hx y hy
    obtain ⟨u, _, rfl⟩ := List.mem_map.mp hx
    obtain ⟨v, _, rfl⟩ := List.mem_map.mp hy
    exact ltLb_app _ _ (by rw [hn s hs, hn t ht]) hst
theorem up_fold : ∀ (c : List (List Str)) (acc : List (List Str)) (n : Nat), (∀ ws ∈ c, ws.Pairwise ltS) → Up acc → (∀ s ∈ acc, s.length = n) → Up (c.foldl stepM acc)
  | [], _, _, _, h, _ => h
  | ws :: c, acc, n, hc, h, hn => by
    rw [List.foldl_cons]
    refine up_fold c _ (n + 1) (fun x hx => hc x (List.mem_cons_of_mem _ hx)) (up_step h hn (hc ws (List.mem_cons_self ..))) fun s hs => ?_
    unfold stepM at hs
    obtain ⟨a, ha, hm⟩ := List.mem_flatMap.mp hs
    obtain ⟨w, _, rfl⟩ := List.mem_map.mp hm
    rw [List.length_append, hn a ha]
    rfl
theorem up_settings {c : List (List Str)} (hc : ∀ ws ∈ c, ws.Pairwise ltS) : Up (settingsM c) :=
  up_fold c _ 0 hc (List.pairwise_singleton _ _) fun s hs => by rw [List.mem_singleton.mp hs]; rfl
theorem VC.up {Ws c : Cse} (h : VC Ws c) : Up (settingsM c) := up_settings fun ws hw => by
  obtain ⟨W, _, _, _, h3⟩ := h.each ws hw
  exact h3
/-- sorted() of settings, all unlike -/
theorem sort_is {bs : List (V × List Str)} {L : List (List Str)} (hn : (bs.map (·.2)).Nodup) (hL : Up L) (hm : ∀ s, s ∈ bs.map (·.2) ↔ s ∈ L) : (bs.mergeSort fun x y => leW x.2 y.2).map (·.2) = L := by
  have hp : (bs.mergeSort fun x y => leW x.2 y.2).Perm bs := List.mergeSort_perm _ _
  have pw := List.pairwise_mergeSort (le := fun (x y : V × List Str) => leW x.2 y.2) (fun a b c h1 h2 => ?_) (fun a b => ?_) bs
  · have hp2 := hp.map (·.2)
    refine up_ext ?_ hL fun z => by rw [hp2.mem_iff]; exact hm z
    have hn2 := hp2.nodup_iff.mpr hn
    rw [List.nodup_iff_pairwise_ne] at hn2
    unfold Up
    rw [List.pairwise_map] at hn2 ⊢
    refine (pw.and hn2).imp ?_
    rintro a b ⟨h1, h2⟩
    rw [leW_eq] at h1
    rcases ltLb_tri a.2 b.2 with z | z | z
    · exact z
    · exact absurd z h2
    · rw [z] at h1
      cases h1
  · simp only [leW_eq, Bool.not_eq_true'] at h1 h2 ⊢
    cases e : ltLb c.2 a.2 with
    | false => rfl
    | true =>
      rcases ltLb_tri a.2 b.2 with z | z | z
      · rw [ltLb_trans e z] at h2
        cases h2
      · rw [z] at e
        rw [e] at h2
        cases h2
      · rw [z] at h1
        cases h1
  · simp only [leW_eq]
    rcases ltLb_tri a.2 b.2 with z | z | z
    · cases e : ltLb b.2 a.2 with
      | false => rfl
      | true =>
        have := ltLb_trans z e
        rw [ltLb_irrefl] at this
        cases this
    · rw [z, ltLb_irrefl]
      rfl
    · cases e : ltLb a.2 b.2 with
      | false => simp
      | true =>
        have := ltLb_trans z e
        rw [ltLb_irrefl] at this
        cases this
/-! ### the settings of cases -/
theorem mem_flat (cs : List Cse) (s : List Str) : s ∈ cs.flatMap settingsM ↔ Any cs s := by
  rw [List.mem_flatMap]
  constructor
  · rintro ⟨c, hc, hs⟩
    exact ⟨c, hc, (mem_settings c s).mp hs⟩
  · rintro ⟨c, hc, hs⟩
    exact ⟨c, hc, (mem_settings c s).mpr hs⟩
theorem Cs.flat_nodup {Ws : Cse} {cs : List Cse} (h : Cs Ws cs) : (cs.flatMap settingsM).Nodup := by
  rw [List.nodup_iff_pairwise_ne, List.pairwise_flatMap]
  refine ⟨fun c hc => List.nodup_iff_pairwise_ne.mp (h.1 c hc).up.nodup, h.2.imp ?_⟩
  intro p q hpq x hx y hy e
  subst e
  exact hpq x ((mem_settings p x).mp hx) ((mem_settings q x).mp hy)
theorem Cs.sub {Ws : Cse} {cs : List Cse} (h : ∀ c ∈ cs, VC Ws c) : ∀ s ∈ cs.flatMap settingsM, s ∈ settingsM Ws := fun s hs => by
  obtain ⟨c, hc, hi⟩ := (mem_flat cs s).mp hs
  exact (mem_settings Ws s).mpr ((h c hc).in_all hi)
theorem Cs.le {Ws : Cse} {cs : List Cse} (h : Cs Ws cs) : cs.length ≤ (settingsM Ws).length := by
  have h1 : (cs.map pickM).length ≤ (settingsM Ws).length := by
    refine len_le ?_ fun s hs => ?_
    · unfold List.Nodup
      rw [List.pairwise_map]
      refine h.2.imp_of_mem ?_
      intro c d hc hd hap e
      have h2 := in_pick (h.1 d hd)
      rw [← e] at h2
      exact hap _ (in_pick (h.1 c hc)) h2
    · obtain ⟨c, hc, rfl⟩ := List.mem_map.mp hs
      exact (mem_settings Ws _).mpr ((h.1 c hc).in_all (in_pick (h.1 c hc)))
  rw [List.length_map] at h1
  exact h1
theorem all_few {Ws : Cse} (hW : COk Ws) : (settingsM Ws).length ≤ 256 := by
  have h2 := settingsM_len (fun ws hw => (hW.2 ws hw).2.1) Ws.length (Nat.le_refl _)
  rw [List.take_length] at h2
  exact Nat.le_trans h2 (pow4 hW.1)
theorem Cs.flat_few {Ws : Cse} {cs : List Cse} (hW : COk Ws) (h : Cs Ws cs) : (cs.flatMap settingsM).length ≤ 256 :=
  Nat.le_trans (len_le h.flat_nodup (Cs.sub h.1)) (all_few hW)
def dueM (fs : List (Str × List Str)) (wn : Wn) : List (List Str) := (settingsM (fs.map (·.2))).filter fun s => holdsM fs s wn
theorem mem_due {fs : List (Str × List Str)} {wn : Wn} {s : List Str} : s ∈ dueM fs wn ↔ In (fs.map (·.2)) s ∧ holdsM fs s wn = true := by
  unfold dueM
  rw [List.mem_filter, mem_settings]
theorem up_all {fs : List (Str × List Str)} (hf : FOk fs) : Up (settingsM (fs.map (·.2))) := (VC.whole hf).up
theorem up_due {fs : List (Str × List Str)} (hf : FOk fs) (wn : Wn) : Up (dueM fs wn) := (up_all hf).filter _
/-- cases of just the settings in which it holds -/
def Good (fs : List (Str × List Str)) (wn : Wn) (cs : List Cse) : Prop := Cs (fs.map (·.2)) cs ∧ ∀ s, In (fs.map (·.2)) s → (Any cs s ↔ holdsM fs s wn = true)
theorem Good.mem {fs : List (Str × List Str)} {wn : Wn} {cs : List Cse} (h : Good fs wn cs) (s : List Str) : s ∈ cs.flatMap settingsM ↔ s ∈ dueM fs wn := by
  rw [mem_flat, mem_due]
  constructor
  · rintro ⟨c, hc, hs⟩
    have hi := (h.1.1 c hc).in_all hs
    exact ⟨hi, (h.2 s hi).mp ⟨c, hc, hs⟩⟩
  · rintro ⟨h1, h2⟩
    exact (h.2 s h1).mpr h2
theorem Good.sort {fs : List (Str × List Str)} {wn : Wn} {cs : List Cse} (hf : FOk fs) (h : Good fs wn cs) {bs : List (V × List Str)} (hb : bs.map (·.2) = cs.flatMap settingsM) : (bs.mergeSort fun x y => leW x.2 y.2).map (·.2) = dueM fs wn :=
  sort_is (by rw [hb]; exact h.1.flat_nodup) (up_due hf wn) fun s => by rw [hb]; exact h.mem s
theorem Good.reverse {fs : List (Str × List Str)} {wn : Wn} {cs : List Cse} (h : Good fs wn cs) : Good fs wn cs.reverse := by
  refine ⟨⟨fun c hc => h.1.1 c (List.mem_reverse.mp hc), ?_⟩, fun s hs => ?_⟩
  · unfold Apart
    rw [List.pairwise_reverse]
    exact h.1.2.imp fun hab s h1 h2 => hab s h2 h1
  · rw [← h.2 s hs]
    constructor
    · rintro ⟨c, hc, hi⟩
      exact ⟨c, List.mem_reverse.mp hc, hi⟩
    · rintro ⟨c, hc, hi⟩
      exact ⟨c, List.mem_reverse.mpr hc, hi⟩
/-! single settings -/
def oneM (s : List Str) : Cse := s.map fun w => [w]
theorem in_one : ∀ (s r : List Str), In (oneM s) r ↔ r = s
  | [], [] => ⟨fun _ => rfl, fun _ => trivial⟩
  | [], _ :: _ => ⟨fun h => h.elim, fun h => by cases h⟩
  | _ :: _, [] => ⟨fun h => h.elim, fun h => by cases h⟩
  | a :: s, b :: r => by
    show (b ∈ [a] ∧ In (oneM s) r) ↔ b :: r = a :: s
    rw [in_one s r, List.mem_singleton, List.cons.injEq]
theorem settings_one (s : List Str) : settingsM (oneM s) = [s] := by
  refine up_ext (up_settings fun ws hw => ?_) (List.pairwise_singleton _ _) fun z => ?_
  · obtain ⟨w, _, rfl⟩ := List.mem_map.mp hw
    exact List.pairwise_singleton _ _
  · rw [mem_settings, in_one, List.mem_singleton]
theorem flat_one (ss : List (List Str)) : (ss.map oneM).flatMap settingsM = ss := by
  rw [List.flatMap_map]
  induction ss with
  | nil => rfl
  | cons s ss ih =>
    rw [List.flatMap_cons, ih, settings_one]
    rfl
theorem VC.one : ∀ {Ws : Cse} {s : List Str}, In Ws s → VC Ws (oneM s)
  | [], [], _ => trivial
  | W :: Ws, w :: s, h => ⟨fun e => (by cases e), fun x hx => by rw [List.mem_singleton.mp hx]; exact h.1, List.pairwise_singleton _ _, VC.one h.2⟩
  | [], _ :: _, h => h.elim
  | _ :: _, [], h => h.elim
theorem Good.ones {fs : List (Str × List Str)} {wn : Wn} {ss : List (List Str)} (hf : FOk fs) (hp : ss.Perm (dueM fs wn)) : Good fs wn (ss.map oneM) := by
  have hn : ss.Nodup := hp.nodup_iff.mpr (up_due hf wn).nodup
  refine ⟨⟨fun c hc => ?_, ?_⟩, fun s hs => ?_⟩
  · obtain ⟨s, hs, rfl⟩ := List.mem_map.mp hc
    exact VC.one (mem_due.mp (hp.mem_iff.mp hs)).1
  · unfold Apart
    rw [List.pairwise_map]
    refine (List.nodup_iff_pairwise_ne.mp hn).imp ?_
    intro a b hab s h1 h2
    rw [in_one] at h1 h2
    exact hab (h1.symm.trans h2)
  · rw [← mem_flat, flat_one, hp.mem_iff, mem_due]
    exact ⟨fun h => h.2, fun h => ⟨hs, h⟩⟩
/-! lists of settings, compared -/
theorem eqv_strs : ∀ xs : List Str, PyData.eqvAll (xs.map .str) (xs.map .str) = true
  | [] => by simp [PyData.eqvAll]
  | x :: xs => by
    rw [List.map_cons, PySem.W.eqv_all_cons, eqv_strs xs]
    simp [PyData.eqv]
theorem eqv_dW (xs : List Str) : PyData.eqv (dW xs) (dW xs) = true := by
  unfold dW
  rw [PyData.eqv]
  exact eqv_strs xs
theorem eqvAll_map {α : Type} {f : α → PyData} (hf : ∀ x, PyData.eqv (f x) (f x) = true) : ∀ xs : List α, PyData.eqvAll (xs.map f) (xs.map f) = true
  | [] => by simp [PyData.eqvAll]
  | x :: xs => by
    rw [List.map_cons, PySem.W.eqv_all_cons, eqvAll_map hf xs, hf x]
    rfl
theorem eqv_lst {α : Type} {f : α → PyData} (hf : ∀ x, PyData.eqv (f x) (f x) = true) (xs : List α) : PyData.eqv (.list (xs.map f)) (.list (xs.map f)) = true := by
  rw [PyData.eqv]
  exact eqvAll_map hf xs
theorem eqvAll_len : ∀ xs ys : List PyData, xs.length ≠ ys.length → PyData.eqvAll xs ys = false
  | [], [], h => absurd rfl h
  | [], _ :: _, _ => by simp [PyData.eqvAll]
  | _ :: _, [], _ => by simp [PyData.eqvAll]
  | x :: xs, y :: ys, h => by
    rw [PySem.W.eqv_all_cons, eqvAll_len xs ys (fun e => h (by rw [List.length_cons, List.length_cons, e])), Bool.and_false]
theorem eqv_len {xs ys : List PyData} (h : xs.length ≠ ys.length) : PyData.eqv (.list xs) (.list ys) = false := by
  rw [PyData.eqv]
  exact eqvAll_len xs ys h
end Sg

namespace Sg
open PySem PySem.Spec PyProof.Rows L2
/-- [e for x in .. if t], whatever is walked; answers without lists in them -/
theorem gen_lc {J : It} {n : Nat} {G : Hp → Prop} {Y : Nat → Hp → V → Hp → Prop} (w : Walk J n G Y) (p : Nat → Bool) (val : Nat → PyData) (himm : ∀ i, imm (val i) = true) {g : TG} {tt : TT} {te : TE} {vs : List Nat} {σ : L2.St} {H1 : Hp} {D : Addr} {Qd : Hp → Prop} (nD : H1 D = none) (hn : n ≤ 100000) (hG : ∀ H, Same H1 H → G H)
    (hs : ∀ (i : Nat) (x : V) (H H' : Hp) (Qy : VK) (Qn : Hp → Prop), i < n → Same H1 H → Y i H x H' → (p i = true → ∀ r H4, Same H H4 → Rp H4 r (val i) → Qy r H4) → (p i = false → ∀ H4, Same H H4 → Qn H4) →
      g x (wipe σ vs) H' fun σ2 H2 => wipe σ2 vs = wipe σ vs ∧ tt σ2 H2 fun b H3 => if b = true then te σ2 H3 Qy else Qn H3)
    (hd : ∀ H' ts, Same H1 H' → H' D = some (.lst ts) → RpAll H' ts (((List.range n).filter p).map val) → Qd H') :
    ∃ W : Nat → Nat → Hp → Prop, (∃ m, W 0 m (upd H1 D (.lst []))) ∧ ∀ i m H, W i m H →
      (J.stop i H ∧ Qd H) ∨ (J.go i H ∧ ∃ Nx : Hp → Prop, (∀ H', Nx H' → ∃ m', m' < m ∧ W (i + 1) m' H') ∧ ∀ x H', J.yld i H x H' → g x (wipe σ vs) H' fun σ2 H2 => wipe σ2 vs = wipe σ vs ∧ tt σ2 H2 fun b H3 =>
        if b = true then te σ2 H3 fun y H4 => ∃ acc, H4 D = some (.lst acc) ∧ acc.length < sizeLine ∧ Nx (upd H4 D (.lst (acc ++ [y]))) else Nx H3) := by
  refine lc_it w (fun i H3 => ∃ ts, Same H1 H3 ∧ H3 D = some (.lst ts) ∧ RpAll H3 ts (((List.range i).filter p).map val)) ⟨[], same_upd nD, upd_same, .nil⟩ (fun i H3 _ h3 => let ⟨_, s3, _⟩ := h3; hG _ s3) ?_ ?_
  · rintro i x H3 H4 hi ⟨ts, s3, d3, r3⟩ y
    have hl := r3.length
    rw [List.length_map] at hl
    have hfl := List.length_filter_le p (List.range i)
    rw [List.length_range] at hfl
    refine hs i x H3 H4 _ _ hi s3 y (fun hp r H5 s5 h5 => ?_) (fun hp H5 s5 => ?_)
    · have d5 := s5 _ _ d3
      refine ⟨ts, d5, smallM (by omega), ts ++ [r], same_add nD (Same.trans s3 s5), upd_same, ?_⟩
      rw [List.range_succ, List.filter_append, List.filter_cons_of_pos hp, List.filter_nil]
      exact RpAll.add himm d5 (r3.same s5) h5
    · refine ⟨ts, Same.trans s3 s5, s5 _ _ d3, ?_⟩
      rw [List.range_succ, List.filter_append, List.filter_cons_of_neg (by rw [hp]; exact Bool.false_ne_true), List.filter_nil, List.append_nil]
      exact r3.same s5
  · rintro H3 ⟨ts, s3, d3, r3⟩
    exact hd _ _ s3 d3 r3
theorem RpAll.trues {H : Hp} {α : Type} : ∀ {ts : List V} {xs : List α}, RpAll H ts (xs.map fun _ => .bool true) → ts = (List.replicate xs.length true).map V.bl
  | _, [], .nil => rfl
  | _, x :: xs, .cons h hs => by
    cases h
    rw [RpAll.trues hs]
    rfl
/-- all([e for x in ..]) where each is True -/
theorem true_lc {J : It} {n : Nat} {G : Hp → Prop} {Y : Nat → Hp → V → Hp → Prop} (w : Walk J n G Y) {g : TG} {te : TE} {vs : List Nat} {σ : L2.St} {H1 : Hp} {D : Addr} {Qd : Hp → Prop} (nD : H1 D = none) (hn : n ≤ 100000) (hG : ∀ H, Same H1 H → G H)
    (hs : ∀ (i : Nat) (x : V) (H H' : Hp) (Qy : VK), i < n → Same H1 H → Y i H x H' → (∀ H4, Same H H4 → Qy (.bl true) H4) → g x (wipe σ vs) H' fun σ2 H2 => wipe σ2 vs = wipe σ vs ∧ tYes σ2 H2 fun b H3 => if b = true then te σ2 H3 Qy else True)
    (hd : ∀ H' (bs : List Bool), Same H1 H' → H' D = some (.lst (bs.map V.bl)) → bs.all id = true → Qd H') :
    ∃ W : Nat → Nat → Hp → Prop, (∃ m, W 0 m (upd H1 D (.lst []))) ∧ ∀ i m H, W i m H →
      (J.stop i H ∧ Qd H) ∨ (J.go i H ∧ ∃ Nx : Hp → Prop, (∀ H', Nx H' → ∃ m', m' < m ∧ W (i + 1) m' H') ∧ ∀ x H', J.yld i H x H' → g x (wipe σ vs) H' fun σ2 H2 => wipe σ2 vs = wipe σ vs ∧ tYes σ2 H2 fun b H3 =>
        if b = true then te σ2 H3 fun y H4 => ∃ acc, H4 D = some (.lst acc) ∧ acc.length < sizeLine ∧ Nx (upd H4 D (.lst (acc ++ [y]))) else Nx H3) := by
  refine gen_lc w (fun _ => true) (fun _ => .bool true) (fun _ => rfl) nD hn hG (fun i x H H' Qy Qn hi s y hy hno => hs i x H H' Qy hi s y fun H4 s4 => hy rfl _ _ s4 (.bl true)) fun H' ts s d r => ?_
  rw [r.trues] at d
  exact hd _ _ s d (all_true _)
/-! ### rises -/
abbrev sRises : Stmt := topS 1
abbrev nRises : List Str := ["texts", "at"]
theorem scRises : FnScope nRises ["texts"] (defScope sRises) := ⟨rfl, rfl, rfl, by decide +kernel, rfl, by decide +kernel, by decide +kernel⟩
abbrev sSome : Stmt := topS 3
abbrev nSome : List Str := ["words", "thing", "word"]
theorem scSome : FnScope nSome ["words", "thing"] (defScope sSome) := ⟨rfl, rfl, rfl, by decide +kernel, rfl, by decide +kernel, by decide +kernel⟩
abbrev sIsCase : Stmt := topS 4
abbrev nIsCase : List Str := ["facets", "thing", "name", "words", "some"]
theorem scIsCase : FnScope nIsCase ["facets", "thing"] (defScope sIsCase) := ⟨rfl, rfl, rfl, by decide +kernel, rfl, by decide +kernel, by decide +kernel⟩
abbrev rLtS : R2 := fun x y H Q => ∃ i j, x = .str i ∧ y = .str j ∧ Q (.bl (decide (i.cps.toList < j.cps.toList))) H
theorem str_at {ws : List Str} {i : Nat} (h : i < ws.length) : atI (ws.map V.str) (i : Int) = some (.str ws[i]) := by
  refine atI_nat ?_
  rw [List.getElem?_map, List.getElem?_eq_getElem h]
  rfl
section
variable {P : Program} {w : World} {K : PySem.W.Frag} {mg : Str → Option Value} {base : Heap}
def spRises : Sp := fun vs H Q _ => ∃ (v : V) (ws : List Str), vs = [v] ∧ Rp H v (dW ws) ∧ ws.length ≤ 1000 ∧ ws.Pairwise ltS ∧ ∀ H', Same H H' → Q (.bl true) H'
theorem ok_rises {f : Addr} {fd : FuncData} {k : Nat} (F : Fun K "rises" "rises" sRises f fd) (ml : mg "len" = none) (mr : mg "range" = none) (ma : mg "all" = none) : FnOk P w K mg base CX0 (k + 1) f fd ["texts"] spRises := by
  refine F.ok scRises (fun vs H Q E h => ?_) (fun cdv A outer s H vs Q E hr h => ?_)
  · obtain ⟨v, ws, rfl, _⟩ := h
    rfl
  · obtain ⟨v, ws, rfl, hv, hl, hp, q⟩ := h
    refine ⟨_, pss_one (ps_ret (pe_callB (cr_all rfl) (by rfl) ma (by decide +kernel) (pa_cons (pe_lc (own := [("at", 1)]) (g := gName 1) (tt := tYes) (te := tOp rLtS (tOp (rIxT K) (tVar 0) (tVar 1)) (tOp (rIxT K) (tVar 0) (tOp (rI0 fun i j => .int (i + j)) (tVar 1) (tC (.int 1))))) rfl scRises.nd
      (pi_range1 rfl mr (pa_cons (pe_op op_sub (pe_callB call_len_seq (by rfl) ml PySem.boot_len (pa_cons (pv 0) pa_nil)) pe_int) pa_nil)) (blkOk_by (N := nRises) (sc := defScope sRises) (by decide +kernel))
      (fun _ _ _ _ _ => pg_name (i := 1) scRises.nd rfl (.inl rfl)) (fun _ _ _ _ _ => pts_nil) (fun _ _ _ _ _ => pe_cmpR op_lt_str (pe_ix ix_tup (pv 0) (pv 1) (fun _ _ => rfl)) (pe_ix ix_tup (pv 0) (pe_op op_add (pv 1) pe_int) (fun _ _ => rfl)) (nomark _))) pa_nil))), ?_⟩
    obtain ⟨a, rfl, ha⟩ := hv.dW_inv
    refine ⟨.ref a, rfl, a, _, rfl, .inr (SqT.of ha), _, 1, rfl, rfl, _, rfl, ?_, ?_, fun D nD => ?_⟩
    · rw [List.length_map]
      omega
    · rw [List.length_map]
      omega
    rw [List.length_map]
    refine true_lc (walk_range (lo := 0)) nD (by omega) (fun _ _ => trivial) (fun i x H3 H4 Qy hi s3 y qy => ?_) (fun H3 bs s3 d3 b3 => ?_)
    · obtain ⟨rfl, rfl⟩ := y
      have e0 : (0 : Int) + (i : Nat) = (i : Nat) := Int.zero_add _
      have h1 : i < ws.length := by omega
      have h2 : i + 1 < ws.length := by omega
      have hlt : decide (ws[i].cps.toList < ws[i + 1].cps.toList) = true := decide_eq_true (List.pairwise_iff_getElem.mp hp i (i + 1) h1 h2 (Nat.lt_succ_self i))
      dsimp only
      rw [e0]
      refine ⟨rfl, .ref a, rfl, .int (i : Nat), rfl, a, _, (i : Nat), _, rfl, rfl, SqT.of (s3 _ _ ha), str_at h1, .ref a, rfl, .int (i : Nat), rfl, _, 1, rfl, rfl, a, _, ((i + 1 : Nat) : Int), _, rfl, rfl, SqT.of (s3 _ _ ha), str_at h2, _, _, rfl, rfl, ?_⟩
      rw [hlt]
      exact qy _ (Same.refl _)
    · refine ⟨D, bs, rfl, SqL.of d3, ?_⟩
      rw [b3]
      exact q _ s3
/-! ### are_some_of -/
def spSome : Sp := fun vs H Q _ => ∃ (u v : V) (W ws : List Str), vs = [u, v] ∧ Rp H u (dW W) ∧ Rp H v (dW ws) ∧ ws ≠ [] ∧ (∀ x ∈ ws, x ∈ W) ∧ ws.Pairwise ltS ∧ W.length ≤ 1000 ∧ ∀ H', Same H H' → Q (.bl true) H'
theorem ok_some {f fR : Addr} {fd fdR : FuncData} {k : Nat} (F : Fun K "are_some_of" "are_some_of" sSome f fd) (FR : Fun K "rises" "rises" sRises fR fdR) (bR : Binds K fdR ["texts"] []) (gR : mg "rises" = some (.ref fR))
    (ml : mg "len" = none) (mr : mg "range" = none) (ma : mg "all" = none) (mis : mg "isinstance" = none) (mt : mg "tuple" = none) : FnOk P w K mg base CX0 (k + 2) f fd ["words", "thing"] spSome := by
  have GR : FnOk P w K mg base CX0 (k + 1) fR fdR ["texts"] spRises := ok_rises FR ml mr ma
  refine F.ok scSome (fun vs H Q E h => ?_) (fun cdv A outer s H vs Q E hr h => ?_)
  · obtain ⟨u, v, W, ws, rfl, _⟩ := h
    rfl
  · obtain ⟨u, v, W, ws, rfl, hu, hv, hne, hsub, hp, hl, q⟩ := h
    refine ⟨_, pss_cons (ps_if (PW.pt (pw_or (pt_not (pt_val (pe_callB call_isi (by rfl) mis (by decide +kernel) (pa_cons (pv 1) (pa_cons (pe_bltn (v := .ty "tuple") (by rfl) mt (by decide +kernel) rfl) pa_nil)))))
          (pw_or1 (pt_not (pt_chain op_le op_le pe_int (pe_callB call_len_seq (by rfl) ml PySem.boot_len (pa_cons (pv 1) pa_nil)) (pe_callB call_len_seq (by rfl) ml PySem.boot_len (pa_cons (pv 0) pa_nil))))))) (pss_one (ps_ret pe_bl)) pss_nil)
      (pss_one (ps_ret (pe_and (pe_callB (cr_all rfl) (by rfl) ma (by decide +kernel) (pa_cons (pe_lc (own := [("word", 2)]) (g := gName 2) (tt := tYes) (te := tOp (rIn K false) (tVar 2) (tVar 0)) rfl scSome.nd (pi_tup (pv 1)) (blkOk_by (N := nSome) (sc := defScope sSome) (by decide +kernel))
          (fun _ _ _ _ _ => pg_name (i := 2) scSome.nd rfl (.inl rfl)) (fun _ _ _ _ _ => pts_nil) (fun _ _ _ _ _ => pe_cmpR op_in_seq (pv 2) (pv 0) rfl)) pa_nil))
        (pe_one (pe_call GR hr (by rfl) gR FR.kp bR .nil pass0 (pa_cons (pv 1) pa_nil)))))), ?_⟩
    obtain ⟨a, rfl, ha⟩ := hu.dW_inv
    obtain ⟨b, rfl, hb⟩ := hv.dW_inv
    have hle : ws.length ≤ W.length := len_le (pairwise_nodup hp) hsub
    have hpos : 1 ≤ ws.length := by
      cases ws with
      | nil => exact absurd rfl hne
      | cons _ _ => exact Nat.succ_le_succ (Nat.zero_le _)
    refine ⟨.ref b, rfl, _, _, .type "tuple", _, true, rfl, .ty _, .base (.tup hb), kit_ty (by decide +kernel), _, rfl, ?_⟩
    refine ⟨.ref b, rfl, b, _, rfl, .inr (SqT.of hb), 1, _, rfl, rfl, _, rfl, ?_⟩
    rw [List.length_map, if_pos (decide_eq_true (by omega : (1 : Int) ≤ (ws.length : Nat)))]
    refine ⟨.ref a, rfl, a, _, rfl, .inr (SqT.of ha), _, _, rfl, rfl, _, rfl, ?_⟩
    rw [List.length_map, show decide ((ws.length : Int) ≤ (W.length : Nat)) = true from decide_eq_true (by omega)]
    refine ⟨.ref b, rfl, b, rfl, ⟨_, SqT.of hb⟩, fun D nD => ?_⟩
    refine true_lc (walk_tup (xs := ws.map V.str)) nD (by rw [List.length_map]; omega) (fun H3 s3 => SqT.of (s3 _ _ hb)) (fun i x H3 H4 Qy hi s3 y qy => ?_) (fun H3 bs s3 d3 b3 => ?_)
    · obtain ⟨rfl, fx⟩ := y
      rw [List.length_map] at hi
      rw [List.getElem?_map, List.getElem?_eq_getElem hi] at fx
      cases fx
      refine ⟨rfl, _, rfl, .ref a, rfl, a, _, rfl, .inr (SqT.of (s3 _ _ ha)), rfl, all_flat W, ?_⟩
      have hin : inV (V.str ws[i]) (W.map V.str) = true := (isIn_iff W ws[i]).mpr (hsub _ (List.getElem_mem hi))
      rw [if_neg Bool.false_ne_true, hin]
      exact qy _ (Same.refl _)
    · refine ⟨D, bs, rfl, SqL.of d3, ?_⟩
      rw [b3]
      refine ⟨_, rfl, ?_⟩
      rw [if_pos rfl]
      exact ⟨.ref b, rfl, .ref b, ws, rfl, hv.same s3, by omega, hp, fun H' s' => q _ (Same.trans s3 s')⟩
/-! ### is_case -/
def spIsCase : Sp := fun vs H Q _ => ∃ (u v : V) (fs : List (Str × List Str)) (c : Cse), vs = [u, v] ∧ Rp H u (dF fs) ∧ Rp H v (dC c) ∧ FOk fs ∧ fs.length ≤ 4 ∧ VC (fs.map (·.2)) c ∧ ∀ H', Same H H' → Q (.bl true) H'
theorem VC.at : ∀ {Ws c : Cse}, VC Ws c → ∀ (i : Nat) (h1 : i < Ws.length) (h2 : i < c.length), c[i] ≠ [] ∧ (∀ x ∈ c[i], x ∈ Ws[i]) ∧ c[i].Pairwise ltS
  | W :: Ws, ws :: c, h, 0, _, _ => ⟨h.1, h.2.1, h.2.2.1⟩
  | W :: Ws, ws :: c, h, i + 1, h1, h2 => VC.at h.2.2.2 i (by simpa using h1) (by simpa using h2)
  | [], _, _, _, h1, _ => absurd h1 (Nat.not_lt_zero _)
  | _ :: _, [], _, _, _, h2 => absurd h2 (Nat.not_lt_zero _)
theorem ok_is_case {f fS fR : Addr} {fd fdS fdR : FuncData} {k : Nat} (F : Fun K "is_case" "is_case" sIsCase f fd) (FS : Fun K "are_some_of" "are_some_of" sSome fS fdS) (bS : Binds K fdS ["words", "thing"] []) (gS : mg "are_some_of" = some (.ref fS)) (FR : Fun K "rises" "rises" sRises fR fdR) (bR : Binds K fdR ["texts"] []) (gR : mg "rises" = some (.ref fR))
    (ml : mg "len" = none) (mr : mg "range" = none) (ma : mg "all" = none) (mis : mg "isinstance" = none) (mt : mg "tuple" = none) (mz : mg "zip" = none) : FnOk P w K mg base CX0 (k + 3) f fd ["facets", "thing"] spIsCase := by
  have GS : FnOk P w K mg base CX0 (k + 2) fS fdS ["words", "thing"] spSome := ok_some FS FR bR gR ml mr ma mis mt
  refine F.ok scIsCase (fun vs H Q E h => ?_) (fun cdv A outer s H vs Q E hr h => ?_)
  · obtain ⟨u, v, fs, c, rfl, _⟩ := h
    rfl
  · obtain ⟨u, v, fs, c, rfl, hu, hv, hfo, hfl, hvc, q⟩ := h
    refine ⟨_, pss_cons (ps_if (PW.pt (pw_or (pt_not (pt_val (pe_callB call_isi (by rfl) mis (by decide +kernel) (pa_cons (pv 1) (pa_cons (pe_bltn (v := .ty "tuple") (by rfl) mt (by decide +kernel) rfl) pa_nil)))))
          (pw_or1 (pt_cmpR op_ne (pe_callB call_len_seq (by rfl) ml PySem.boot_len (pa_cons (pv 1) pa_nil)) (pe_callB call_len_seq (by rfl) ml PySem.boot_len (pa_cons (pv 0) pa_nil)) (nomark _))))) (pss_one (ps_ret pe_bl)) pss_nil)
      (pss_one (ps_ret (pe_callB (cr_all rfl) (by rfl) ma (by decide +kernel) (pa_cons (pe_lc (own := [("name", 2), ("words", 3), ("some", 4)]) (g := gTup K 2 (gCons (gTup K 2 (gCons (gName 2) (gCons (gName 3) gNil))) (gCons (gName 4) gNil))) (tt := tYes) (te := tCall spSome [] E0 (tCons (tVar 3) (tCons (tVar 4) tNil))) rfl scIsCase.nd (RZ.pi_zipA (by rfl) mz (pa_cons (pv 0) (pa_cons (pv 1) pa_nil))) (blkOk_by (N := nIsCase) (sc := defScope sIsCase) (by decide +kernel))
          (fun _ _ _ _ _ => pg_tup rfl (pgs_cons (pg_tup rfl (pgs_cons (pg_name (i := 2) scIsCase.nd rfl (.inl rfl)) (pgs_cons (pg_name (i := 3) scIsCase.nd rfl (.inl rfl)) pgs_nil))) (pgs_cons (pg_name (i := 4) scIsCase.nd rfl (.inl rfl)) pgs_nil))) (fun _ _ _ _ _ => pts_nil)
          (fun _ _ _ _ _ => pe_call GS hr (by rfl) gS FS.kp bS .nil pass0 (pa_cons (pv 3) (pa_cons (pv 4) pa_nil)))) pa_nil)))), ?_⟩
    obtain ⟨a, xs, rfl, ha, hx⟩ := hu.tup_inv
    obtain ⟨b, ys, rfl, hb, hy⟩ := hv.tup_inv
    have hlx := hx.length
    have hly := hy.length
    have hlc := hvc.len
    rw [List.length_map] at hlx hly hlc
    refine ⟨.ref b, rfl, _, _, .type "tuple", _, true, rfl, .ty _, .base (.tup hb), kit_ty (by decide +kernel), _, rfl, ?_⟩
    refine ⟨.ref b, rfl, b, _, rfl, .inr (SqT.of hb), .ref a, rfl, a, _, rfl, .inr (SqT.of ha), rfl, _, rfl, ?_⟩
    rw [show decide (V.int (ys.length : Int) = V.int (xs.length : Int)) = true from decide_eq_true (by rw [hlx, hly, hlc])]
    refine ⟨.ref a, rfl, .ref b, rfl, a, b, xs, ys, rfl, .inr ⟨SqT.of ha, SqT.of hb, fun D nD => ?_⟩⟩
    refine true_lc (walk_zipT (xs := xs) (ys := ys) rfl) nD (by omega) (fun H3 s3 => ⟨SqT.of (s3 _ _ ha), SqT.of (s3 _ _ hb)⟩) (fun i x H3 H4 Qy hi s3 y qy => ?_) (fun H3 bs s3 d3 b3 => ?_)
    · obtain ⟨T2, x1, x2, rfl, nT2, rfl, f1, f2⟩ := y
      have hi1 : i < fs.length := by omega
      have hi2 : i < c.length := by omega
      obtain ⟨d1, hd1, r1⟩ := hx.get f1
      obtain ⟨d2, hd2, r2⟩ := hy.get f2
      rw [List.getElem?_map, List.getElem?_eq_getElem hi1] at hd1
      rw [List.getElem?_map, List.getElem?_eq_getElem hi2] at hd2
      cases hd1
      cases hd2
      have sT : Same H3 (upd H3 T2 (.tup [x1, x2])) := same_upd nT2
      have s0 := Same.trans s3 sT
      obtain ⟨p, u2, rfl, hp, hu2⟩ := (r1.same s0).dP_inv
      obtain ⟨h1, h2, h3⟩ := hvc.at i (by rw [List.length_map]; exact hi1) hi2
      rw [List.getElem_map] at h2
      refine ⟨T2, _, rfl, SqT.of upd_same, rfl, _, _, rfl, ⟨p, _, rfl, SqT.of hp, rfl, _, _, rfl, _, _, rfl, rfl, _, _, rfl, rfl, rfl, u2, rfl, x2, rfl, u2, x2, fs[i].2, c[i], rfl, hu2, r2.same s0, h1, h2, h3, ?_, fun H5 s5 => qy _ (Same.trans sT s5)⟩⟩
      have := (hfo _ (List.getElem_mem hi1)).2.2.1
      omega
    · refine ⟨D, bs, rfl, SqL.of d3, ?_⟩
      rw [b3]
      exact q _ s3
end
end Sg

namespace Sg
open PySem PySem.Spec PyProof.Rows L2
theorem range_map {α β : Type} (f : α → β) (z : α) (xs : List α) : (List.range xs.length).map (fun i => f (xs.getD i z)) = xs.map f := by
  apply List.ext_getElem
  · simp
  · intro i h1 h2
    have h3 : i < xs.length := by simpa using h2
    simp [h3]
theorem range_pick {α β : Type} (f : α → β) (p : α → Bool) (z : α) (xs : List α) : ((List.range xs.length).filter fun i => p (xs.getD i z)).map (fun i => f (xs.getD i z)) = (xs.filter p).map f := by
  have e : (List.range xs.length).map (fun i => id (xs.getD i z)) = xs := (range_map id z xs).trans (List.map_id xs)
  have e2 : xs.filter p = ((List.range xs.length).filter fun i => p (xs.getD i z)).map (fun i => id (xs.getD i z)) := by
    have := congrArg (List.filter p) e
    rw [List.filter_map] at this
    exact this.symm
  rw [e2, List.map_map]
  rfl
theorem getD_lt {α : Type} {xs : List α} {i : Nat} (z : α) (h : i < xs.length) : xs.getD i z = xs[i] := by
  simp [h]
theorem zip_rp {H : Hp} : ∀ {us : List V} {ss : List (List Str)}, RpAll H us (ss.map dW) → ∃ bs : List (V × List Str), bs.map (·.1) = us ∧ bs.map (·.2) = ss ∧ ∀ b ∈ bs, Rp H b.1 (dW b.2)
  | _, [], .nil => ⟨[], rfl, rfl, fun _ h => by cases h⟩
  | v :: us, s :: ss, .cons h hs => by
    obtain ⟨bs, h1, h2, h3⟩ := zip_rp hs
    refine ⟨(v, s) :: bs, by rw [List.map_cons, h1], by rw [List.map_cons, h2], fun b hb => ?_⟩
    rcases List.mem_cons.mp hb with z | z
    · rw [z]
      exact h
    · exact h3 b z
theorem rp_zip {H : Hp} : ∀ {bs : List (V × List Str)}, (∀ b ∈ bs, Rp H b.1 (dW b.2)) → RpAll H (bs.map (·.1)) ((bs.map (·.2)).map dW)
  | [], _ => .nil
  | b :: bs, h => .cons (h b (List.mem_cons_self ..)) (rp_zip fun c hc => h c (List.mem_cons_of_mem _ hc))
theorem sorted_use {K : PySem.W.Frag} {H : Hp} {a : Addr} {ss : List (List Str)} {n : Nat} {Q : VK} (ha : Rp H (.ref a) (.list (ss.map dW))) (hl : ∀ s ∈ ss, s.length = n + 1) (hz : ss.length ≤ 1000)
    (h : ∀ (p : Addr) (H' : Hp) (bs : List (V × List Str)), Same H H' → H p = none → bs.map (·.2) = ss → Rp H' (.ref p) (.list (((bs.mergeSort fun x y => leW x.2 y.2).map (·.2)).map dW)) → Q (.ref p) H') : rSortedW K [.ref a] H Q := by
  obtain ⟨us, ha, hr⟩ := ha.lst_inv
  obtain ⟨bs, e1, e2, h3⟩ := zip_rp hr
  refine ⟨a, bs, n, rfl, SqL.of (by rw [e1]; exact ha), fun b hb => ⟨(h3 b hb).dp, ?_⟩, ?_, fun p np => ?_⟩
  · exact hl _ (by rw [← e2]; exact List.mem_map.mpr ⟨b, hb, rfl⟩)
  · have := congrArg List.length e2
    rw [List.length_map] at this
    rw [this]
    exact sz _ hz
  · refine h p _ bs (same_upd np) np e2 (.lst upd_same ?_)
    refine RpAll.same (same_upd np) (rp_zip fun b hb => h3 b ?_)
    exact (List.mergeSort_perm bs _).mem_iff.mp hb
theorem in_words : ∀ {Ws : Cse} {s : List Str}, In Ws s → ∀ w ∈ s, ∃ W ∈ Ws, w ∈ W
  | [], [], _, _, hw => by cases hw
  | W :: Ws, v :: s, h, w, hw => by
    rcases List.mem_cons.mp hw with z | z
    · rw [z]
      exact ⟨W, List.mem_cons_self .., h.1⟩
    · obtain ⟨W', h1, h2⟩ := in_words h.2 w z
      exact ⟨W', List.mem_cons_of_mem _ h1, h2⟩
  | [], _ :: _, h, _, _ => h.elim
  | _ :: _, [], h, _, _ => h.elim
theorem shaped_ss {Ws : Cse} (hW : COk Ws) {ss : List (List Str)} (h : ∀ s ∈ ss, In Ws s) : SeqAt.shaped (.list (ss.map dW)) = true := by
  refine shaped_of (canLayAll_map fun s hs => lay_dW fun w hw => ?_) ?_
  · obtain ⟨W, h1, h2⟩ := in_words (h s hs) w hw
    exact (hW.2 W h1).2.2 w h2
  · show PyData.depthAll (ss.map dW) + 1 ≤ 64
    have := depthAll_map (k := 1) (f := dW) (xs := ss) fun s _ => dep_dW s
    omega
/-- the two ways in which sorted settings stand beside those in which it holds -/
def Told (fs : List (Str × List Str)) (wn : Wn) (cs : List Cse) (b : Bool) : Prop := (b = true ∧ Good fs wn cs) ∨ (b = false ∧ (cs.flatMap settingsM).length ≠ (dueM fs wn).length)
theorem told_eqv {fs : List (Str × List Str)} {wn : Wn} {cs : List Cse} {b : Bool} (hf : FOk fs) (h : Told fs wn cs b) {bs : List (V × List Str)} (hb : bs.map (·.2) = cs.flatMap settingsM) :
    PyData.eqv (.list (((bs.mergeSort fun x y => leW x.2 y.2).map (·.2)).map dW)) (.list ((dueM fs wn).map dW)) = b := by
  rcases h with ⟨rfl, h⟩ | ⟨rfl, h⟩
  · rw [h.sort hf hb]
    exact eqv_lst eqv_dW _
  · refine eqv_len ?_
    rw [List.length_map, List.length_map, List.length_map, List.length_mergeSort]
    have := congrArg List.length hb
    rw [List.length_map] at this
    rw [this]
    exact h
theorem told_in_all {fs : List (Str × List Str)} {cs : List Cse} (hv : ∀ c ∈ cs, VC (fs.map (·.2)) c) {bs : List (V × List Str)} (hb : bs.map (·.2) = cs.flatMap settingsM) : ∀ s ∈ (bs.mergeSort fun x y => leW x.2 y.2).map (·.2), In (fs.map (·.2)) s := fun s hs => by
  have hp := (List.mergeSort_perm bs (fun x y => leW x.2 y.2)).map (·.2)
  have := hp.mem_iff.mp hs
  rw [hb] at this
  exact (mem_settings _ s).mp (Cs.sub hv s this)
theorem due_in {fs : List (Str × List Str)} {wn : Wn} : ∀ s ∈ dueM fs wn, In (fs.map (·.2)) s := fun s hs => (mem_due.mp hs).1
/-! ### shows_cases -/
abbrev sShows : Stmt := topS 17
abbrev nShows : List Str := ["facets", "when", "thing", "every", "shown", "case", "setting"]
theorem scShows : FnScope nShows ["facets", "when", "thing"] (defScope sShows) := ⟨rfl, rfl, rfl, by decide +kernel, rfl, by decide +kernel, by decide +kernel⟩
section
variable {P : Program} {w : World} {K : PySem.W.Frag} {mg : Str → Option Value} {base : Heap}
def spShows (n : Nat) : Sp := fun vs H Q _ => ∃ (fv wv : V) (a : Addr) (fs : List (Str × List Str)) (wn : Wn) (cs : List Cse) (b : Bool), vs = [fv, wv, .ref a] ∧ Rp H fv (dF fs) ∧ Rp H wv (dN wn) ∧ Rp H (.ref a) (.list (cs.map dC)) ∧ FOk fs ∧ 1 ≤ fs.length ∧ fs.length ≤ 4 ∧ WOk fs wn ∧ dep wn ≤ n ∧
  (∀ c ∈ cs, VC (fs.map (·.2)) c) ∧ cs.length ≤ (settingsM (fs.map (·.2))).length ∧ (cs.flatMap settingsM).length ≤ 1000 ∧ Told fs wn cs b ∧ ∀ H', Same H H' → Q (.bl b) H'
theorem settings_le {Ws c : Cse} (h : VC Ws c) : (settingsM c).length ≤ (settingsM Ws).length :=
  len_le h.up.nodup fun s hs => (mem_settings Ws s).mpr (h.in_all ((mem_settings c s).mp hs))
theorem settings_len {c : Cse} {s : List Str} (h : s ∈ settingsM c) : s.length = c.length := ((mem_settings c s).mp h).len
theorem ok_shows {f fH fI fC fO : Addr} {fd fdH fdI fdC fdO : FuncData} {n : Nat} (F : Fun K "shows_cases" "shows_cases" sShows f fd)
    (FH : Fun K "whole_case" "whole_case" sWhole fH fdH) (bH : Binds K fdH ["facets"] []) (gH : mg "whole_case" = some (.ref fH)) (GH : FnOk P w K mg base CX0 (n + 3) fH fdH ["facets"] spWhole)
    (FI : Fun K "settings_in" "settings_in" sSettingsIn fI fdI) (bI : Binds K fdI ["case"] []) (gI : mg "settings_in" = some (.ref fI)) (GI : FnOk P w K mg base CX0 (n + 3) fI fdI ["case"] spSettings)
    (FC : Fun K "is_case" "is_case" sIsCase fC fdC) (bC : Binds K fdC ["facets", "thing"] []) (gC : mg "is_case" = some (.ref fC)) (GC : FnOk P w K mg base CX0 (n + 3) fC fdC ["facets", "thing"] spIsCase)
    (FO : Fun K "holds" "holds" sHolds fO fdO) (bO : Binds K fdO ["facets", "when", "setting"] []) (gO : mg "holds" = some (.ref fO)) (GO : FnOk P w K mg base CX0 (n + 3) fO fdO ["facets", "when", "setting"] (spHolds n))
    (ml : mg "len" = none) (ma : mg "all" = none) (mis : mg "isinstance" = none) (mls : mg "list" = none) (ms : mg "sorted" = none) : FnOk P w K mg base CX0 (n + 4) f fd ["facets", "when", "thing"] (spShows n) := by
  refine F.ok scShows (fun vs H Q E h => ?_) (fun cdv A outer s H vs Q E hr h => ?_)
  · obtain ⟨fv, wv, a, fs, wn, cs, b, rfl, _⟩ := h
    rfl
  · obtain ⟨fv, wv, a, fs, wn, cs, b, rfl, hf, hw, ha, hfo, hf1, hf4, hok, hd, hvc, hcl, hfl, htold, q⟩ := h
    refine ⟨_, pss_cons (ps_set (i := 3) scShows.nd rfl (.inl rfl) (pe_call GI hr (by rfl) gI FI.kp bI .nil pass0 (pa_cons (pe_call GH hr (by rfl) gH FH.kp bH .nil pass0 (pa_cons (pv 0) pa_nil)) pa_nil)))
      (pss_cons (ps_if (PW.pt (pw_or (pt_not (pt_val (pe_callB call_isi (by rfl) mis (by decide +kernel) (pa_cons (pv 2) (pa_cons (pe_bltn (v := .ty "list") (by rfl) mls (by decide +kernel) rfl) pa_nil)))))
          (pw_or1 (pt_cmpR op_gt (pe_callB call_len_seq (by rfl) ml PySem.boot_len (pa_cons (pv 2) pa_nil)) (pe_callB call_len_seq (by rfl) ml PySem.boot_len (pa_cons (pv 3) pa_nil)) (nomark _))))) (pss_one (ps_ret pe_bl)) pss_nil)
      (pss_cons (ps_if (pt_not (pt_val (pe_callB (cr_all rfl) (by rfl) ma (by decide +kernel) (pa_cons (pe_lc (own := [("case", 5)]) (g := gName 5) (tt := tYes) (te := tCall spIsCase [] E0 (tCons (tVar 0) (tCons (tVar 5) tNil))) rfl scShows.nd (pi_list (pv 2)) (blkOk_by (N := nShows) (sc := defScope sShows) (by decide +kernel))
          (fun _ _ _ _ _ => pg_name (i := 5) scShows.nd rfl (.inl rfl)) (fun _ _ _ _ _ => pts_nil) (fun _ _ _ _ _ => pe_call GC hr (by rfl) gC FC.kp bC .nil pass0 (pa_cons (pv 0) (pa_cons (pv 5) pa_nil)))) pa_nil)))) (pss_one (ps_ret pe_bl)) pss_nil)
      (pss_cons (ps_setLc2 (i := 4) (own := [("case", 5), ("setting", 6)]) (vs1 := [6]) (g := gName 5) (tt := tYes) (wi1 := iList K (tCall spSettings [] E0 (tCons (tVar 5) tNil))) (g1 := gName 6) (tt1 := tYes) (te := tVar 6) rfl scShows.nd rfl rfl (sw_true rfl rfl rfl (by decide +kernel)) (pi_list (pv 2)) (blkOk_by (N := nShows) (sc := defScope sShows) (by decide +kernel)) (by decide)
          (fun _ _ _ _ _ => pg_name (i := 5) scShows.nd rfl (.inl rfl)) (fun _ _ _ _ _ => pts_nil) (fun _ _ _ _ _ => pi_list (pe_call GI hr (by rfl) gI FI.kp bI .nil pass0 (pa_cons (pv 5) pa_nil))) (fun _ _ _ _ _ => pg_name (i := 6) scShows.nd rfl (.inl rfl)) (fun _ _ _ _ _ => pts_nil)
          (fun _ _ _ _ _ => pv 6))
      (pss_one (ps_ret (pe_cmpR (op_eqD hr.units) (pe_callB (cr_sortedW (hu65 hr)) (by rfl) ms (by decide +kernel) (pa_cons (pv 4) pa_nil))
          (pe_lc (own := [("setting", 6)]) (g := gName 6) (tt := tTest (tCall (spHolds n) [] E0 (tCons (tVar 0) (tCons (tVar 1) (tCons (tVar 6) tNil))))) (te := tVar 6) rfl scShows.nd (pi_list (pv 3)) (blkOk_by (N := nShows) (sc := defScope sShows) (by decide +kernel))
            (fun _ _ _ _ _ => pg_name (i := 6) scShows.nd rfl (.inl rfl)) (fun _ _ _ _ _ => pts_one (pt_val (pe_call GO hr (by rfl) gO FO.kp bO .nil pass0 (pa_cons (pv 0) (pa_cons (pv 1) (pa_cons (pv 6) pa_nil)))))) (fun _ _ _ _ _ => pv 6)) (nomark _))))))), ?_⟩
    have hW := COk.of hfo hf4
    have hWl : (fs.map (·.2)).length = fs.length := List.length_map _
    refine ⟨fv, rfl, fv, fs, rfl, hf, hf4, fun wv1 H1 s1 h1 => ⟨wv1, fs.map (·.2), rfl, h1, hW, fun ev H2 s2 nev hev => ?_⟩⟩
    have s12 := Same.trans s1 s2
    obtain ⟨us, ha0, hr0⟩ := ha.lst_inv
    obtain ⟨es, he0, he1⟩ := hev.lst_inv
    have hlu := hr0.length
    have hle := he1.length
    rw [List.length_map] at hlu hle
    have ha2 := s12 _ _ ha0
    refine ⟨.ref a, rfl, _, _, .type "list", _, true, rfl, .ty _, .base (.lst ha2), kit_ty (by decide +kernel), _, rfl, ?_⟩
    refine ⟨.ref a, rfl, a, _, rfl, .inl (SqL.of ha2), .ref ev, rfl, ev, _, rfl, .inl (SqL.of he0), _, _, rfl, rfl, _, rfl, ?_⟩
    rw [show decide ((es.length : Int) < (us.length : Nat)) = false from decide_eq_false (by omega)]
    refine ⟨.ref a, rfl, a, rfl, ⟨us, SqL.of ha2⟩, fun D nD => ?_⟩
    have hfew : cs.length ≤ 256 := Nat.le_trans hcl (all_few hW)
    refine true_lc (walk_list (xs := us)) nD (by omega) (fun H3 s3 => SqL.of (s3 _ _ ha2)) (fun i x H3 H4 Qy hi s3 y qy => ?_) (fun H3 bs s3 d3 b3 => ?_)
    · obtain ⟨rfl, fx⟩ := y
      obtain ⟨d, hdd, hxo⟩ := hr0.get fx
      have hic : i < cs.length := by omega
      rw [List.getElem?_map, List.getElem?_eq_getElem hic] at hdd
      cases hdd
      exact ⟨rfl, fv, rfl, x, rfl, fv, x, fs, cs[i], rfl, hf.same (Same.trans s12 s3), hxo.same (Same.trans s12 s3), hfo, hf4, hvc _ (List.getElem_mem hic), fun H5 s5 => qy _ s5⟩
    · refine ⟨D, bs, rfl, SqL.of d3, _, rfl, ?_⟩
      rw [b3]
      have s03 := Same.trans s12 s3
      have ha3 := s03 _ _ ha0
      have hr3 := hr0.same s03
      refine ⟨.ref a, rfl, a, rfl, ⟨us, SqL.of ha3⟩, fun D2 nD2 => ?_⟩
      refine out_it (walk_list (xs := us)) (fun j H5 => ∃ ts : List V, Same H3 H5 ∧ H5 D2 = some (.lst ts) ∧ RpAll H5 ts (((cs.take j).flatMap settingsM).map dW)) ⟨[], same_upd nD2, upd_same, .nil⟩ ?_ ?_ ?_
      · rintro j H5 _ ⟨ts, s5, _⟩
        exact SqL.of (s5 _ _ ha3)
      · rintro j y H6 H5 hj ⟨ts, s5, d5, r5⟩ ⟨rfl, fy⟩
        obtain ⟨dd, hdd, hx2⟩ := hr3.get fy
        have hjs : j < cs.length := by omega
        rw [List.getElem?_map, List.getElem?_eq_getElem hjs] at hdd
        cases hdd
        refine ⟨rfl, y, rfl, y, cs[j], rfl, hx2.same s5, (hvc _ (List.getElem_mem hjs)).ok hW, fun p H7 s7 np hp => ?_⟩
        obtain ⟨zs, hp, hz⟩ := hp.lst_inv
        have hzl := hz.length
        rw [List.length_map] at hzl
        have hz4 := settings_le (hvc _ (List.getElem_mem hjs))
        have hz5 := all_few hW
        refine ⟨p, rfl, ⟨zs, SqL.of hp⟩, ?_⟩
        have npD : p ≠ D2 := fun e => by
          subst e
          rw [d5] at np
          cases np
        have hf1 := flat_le settingsM 256 (cs.take j) fun c hc => Nat.le_trans (settings_le (hvc c (List.mem_of_mem_take hc))) hz5
        rw [List.length_take] at hf1
        refine out_it (walk_list (xs := zs)) (fun m H8 => ∃ ts : List V, Same H3 H8 ∧ H8 p = some (.lst zs) ∧ RpAll H8 zs ((settingsM cs[j]).map dW) ∧ H8 D2 = some (.lst ts) ∧ RpAll H8 ts ((((cs.take j).flatMap settingsM) ++ (settingsM cs[j]).take m).map dW)) ⟨ts, Same.trans s5 s7, hp, hz, s7 _ _ d5, ?_⟩ ?_ ?_ ?_
        · rw [List.take_zero, List.append_nil]
          exact r5.same s7
        · rintro m H8 _ ⟨ts, s8, p8, _⟩
          exact SqL.of p8
        · rintro m z H9 H8 hm ⟨ts, s8, p8, z8, d8, r8⟩ ⟨rfl, fz⟩
          obtain ⟨d9, hd9, hx9⟩ := z8.get fz
          have hmw : m < (settingsM cs[j]).length := by omega
          rw [List.getElem?_map, List.getElem?_eq_getElem hmw] at hd9
          cases hd9
          have hts := r8.length
          rw [List.length_map, List.length_append, List.length_take] at hts
          have hmm : min j cs.length * 256 ≤ 256 * 256 := Nat.mul_le_mul_right _ (by omega)
          have kT : KeepT H8 (upd H8 D2 (.lst (ts ++ [z]))) := keepT_lst d8
          refine ⟨rfl, z, rfl, ts, d8, smallM (by omega), ts ++ [z], same_add nD2 s8, ?_, ?_, upd_same, ?_⟩
          · rw [upd_ne npD]
            exact p8
          · exact z8.keep kT (immAll_map imm_dW _)
          · rw [List.take_succ_eq_append_getElem hmw, ← List.append_assoc]
            exact RpAll.add imm_dW d8 r8 hx9
        · rintro H8 ⟨ts, s8, p8, z8, d8, r8⟩
          refine ⟨ts, s8, d8, ?_⟩
          rw [flat_succ _ _ _ hjs]
          rw [hzl, List.take_length] at r8
          exact r8
      · rintro H5 ⟨ts, s5, d5, r5⟩
        rw [hlu, List.take_length] at r5
        have hlen1 : ∀ s ∈ cs.flatMap settingsM, s.length = (fs.length - 1) + 1 := fun s hs => by
          have := ((mem_settings _ s).mp (Cs.sub hvc s hs)).len
          rw [hWl] at this
          omega
        refine ⟨.ref D2, rfl, ?_⟩
        dsimp only [tNil]
        refine sorted_use (.lst d5 r5) hlen1 hfl fun p H6 bs' s6 np e6 hp6 => ?_
        have s26 : Same H2 H6 := Same.trans (Same.trans s3 s5) s6
        have s06 : Same H H6 := Same.trans s12 s26
        refine ⟨.ref ev, rfl, ev, rfl, ⟨es, SqL.of (s26 _ _ he0)⟩, fun D3 nD3 => ?_⟩
        refine gen_lc (walk_list (xs := es)) (fun i => holdsM fs ((settingsM (fs.map (·.2))).getD i []) wn) (fun i => dW ((settingsM (fs.map (·.2))).getD i [])) (fun _ => imm_dW _) nD3 (by have := all_few hW; omega) (fun H7 s7 => SqL.of (s7 _ _ (s26 _ _ he0))) (fun i x H7 H8 Qy Qn hi s7 y hy hn => ?_) (fun H7 ts2 s7 d7 r7 => ?_)
        · obtain ⟨rfl, fx⟩ := y
          obtain ⟨dd, hdd, hxo⟩ := he1.get fx
          have hie : i < (settingsM (fs.map (·.2))).length := by omega
          rw [List.getElem?_map, List.getElem?_eq_getElem hie] at hdd
          cases hdd
          simp only [getD_lt [] hie] at hy hn
          have hsl := settings_len (List.getElem_mem hie)
          rw [hWl] at hsl
          have hxo7 := hxo.same (Same.trans s26 s7)
          refine ⟨rfl, fv, rfl, wv, rfl, x, rfl, fv, wv, x, fs, wn, _, rfl, hf.same (Same.trans s06 s7), hw.same (Same.trans s06 s7), hxo7, hok, hd, hsl, by omega, fun H9 s9 => ⟨_, rfl, ?_⟩⟩
          dsimp only
          by_cases hh : holdsM fs (settingsM (fs.map (·.2)))[i] wn = true
          · rw [if_pos hh]
            exact ⟨x, rfl, hy hh _ _ s9 (hxo7.same s9)⟩
          · rw [if_neg hh]
            exact hn (by simpa using hh) _ s9
        · rw [hle, range_pick dW (fun s => holdsM fs s wn) []] at r7
          refine ⟨.list (((bs'.mergeSort fun x y => leW x.2 y.2).map (·.2)).map dW), .list ((dueM fs wn).map dW), (hp6.same s7).dp, Rp.dp (.lst d7 r7), shaped_ss hW (told_in_all hvc e6), shaped_ss hW due_in, ?_⟩
          rw [told_eqv hfo htold e6]
          exact q _ (Same.trans s06 s7)
end
end Sg

namespace Sg
open PySem PySem.Spec PyProof.Rows L2
abbrev sLRises : Stmt := topS 29
abbrev nLRises : List Str := ["_law_some", "_law_one", "_law_other"]
theorem scLRises : FnScope nLRises ["_law_some"] (defScope sLRises) := ⟨rfl, rfl, rfl, by decide +kernel, rfl, by decide +kernel, by decide +kernel⟩
abbrev sLIsCase : Stmt := topS 30
abbrev nLIsCase : List Str := ["_law_a_facets", "_law_a_thing", "_law_some", "_law_pair", "_law_one"]
theorem scLIsCase : FnScope nLIsCase ["_law_a_facets", "_law_a_thing"] (defScope sLIsCase) := ⟨rfl, rfl, rfl, by decide +kernel, rfl, by decide +kernel, by decide +kernel⟩
abbrev sCR : Stmt := topS 32
abbrev nCR : List Str := ["_law_a_facets", "_law_a_when", "_law_a_thing", "_law_one", "_law_found", "_law_setting"]
theorem scCR : FnScope nCR ["_law_a_facets", "_law_a_when", "_law_a_thing"] (defScope sCR) := ⟨rfl, rfl, rfl, by decide +kernel, rfl, by decide +kernel, by decide +kernel⟩
section
variable {P : Program} {w : World} {K : PySem.W.Frag} {mg : Str → Option Value} {base : Heap}
theorem ok_lrises {f : Addr} {fd : FuncData} {k : Nat} (F : Fun K "_law_rises" "_law_rises" sLRises f fd) (mz : mg "zip" = none) (ma : mg "all" = none) : FnOk P w K mg base CX0 (k + 1) f fd ["_law_some"] spRises := by
  refine F.ok scLRises (fun vs H Q E h => ?_) (fun cdv A outer s H vs Q E hr h => ?_)
  · obtain ⟨v, ws, rfl, _⟩ := h
    rfl
  · obtain ⟨v, ws, rfl, hv, hl, hp, q⟩ := h
    refine ⟨_, pss_one (ps_ret (pe_callB (cr_all rfl) (by rfl) ma (by decide +kernel) (pa_cons (pe_lc (own := [("_law_one", 1), ("_law_other", 2)]) (g := gTup K 2 (gCons (gName 1) (gCons (gName 2) gNil))) (tt := tYes) (te := tOp rLtS (tVar 1) (tVar 2)) rfl scLRises.nd
      (RZ.pi_zipA (by rfl) mz (pa_cons (pv 0) (pa_cons (pe_slice sl_tupA (pv 0) (po_some pe_int) po_none) pa_nil))) (blkOk_by (N := nLRises) (sc := defScope sLRises) (by decide +kernel))
      (fun _ _ _ _ _ => pg_tup rfl (pgs_cons (pg_name (i := 1) scLRises.nd rfl (.inl rfl)) (pgs_cons (pg_name (i := 2) scLRises.nd rfl (.inl rfl)) pgs_nil))) (fun _ _ _ _ _ => pts_nil) (fun _ _ _ _ _ => pe_cmpR op_lt_str (pv 1) (pv 2) (nomark _))) pa_nil))), ?_⟩
    obtain ⟨a, rfl, ha⟩ := hv.dW_inv
    refine ⟨.ref a, rfl, .ref a, rfl, 1, rfl, ?_⟩
    dsimp only [tNoPart]
    refine slA_use ha fun r H1 s1 e1 => ?_
    have ha1 := s1 _ _ ha
    have ecut : cutV (ws.map V.str) (some (1 : Int)) none = (ws.drop 1).map V.str := by
      cases ws with
      | nil => rfl
      | cons x r =>
        have := cut_drop ((x :: r).map V.str) 1 (by simp)
        rw [List.map_drop]
        exact this
    rw [ecut] at e1
    refine ⟨a, r, ws.map V.str, (ws.drop 1).map V.str, rfl, .inr ⟨SqT.of ha1, SqT.of e1, fun D nD => ?_⟩⟩
    refine true_lc (walk_zipT (xs := ws.map V.str) (ys := (ws.drop 1).map V.str) rfl) nD (by rw [List.length_map, List.length_map]; omega) (fun H3 s3 => ⟨SqT.of (s3 _ _ ha1), SqT.of (s3 _ _ e1)⟩) (fun i x H3 H4 Qy hi s3 y qy => ?_) (fun H3 bs s3 d3 b3 => ?_)
    · obtain ⟨T2, x1, x2, rfl, nT2, rfl, f1, f2⟩ := y
      rw [List.length_map, List.length_map, List.length_drop] at hi
      have h1 : i < ws.length := by omega
      have h2 : i + 1 < ws.length := by omega
      dsimp only at f1 f2
      rw [List.getElem?_map, List.getElem?_eq_getElem h1] at f1
      rw [List.getElem?_map, List.getElem?_drop, Nat.add_comm 1 i, List.getElem?_eq_getElem h2] at f2
      cases f1
      cases f2
      have hlt : decide (ws[i].cps.toList < ws[i + 1].cps.toList) = true := decide_eq_true (List.pairwise_iff_getElem.mp hp i (i + 1) h1 h2 (Nat.lt_succ_self i))
      refine ⟨T2, _, rfl, SqT.of upd_same, rfl, _, _, rfl, _, _, rfl, rfl, rfl, _, rfl, _, rfl, _, _, rfl, rfl, ?_⟩
      rw [hlt]
      exact qy _ (same_upd nT2)
    · refine ⟨D, bs, rfl, SqL.of d3, ?_⟩
      rw [b3]
      exact q _ (Same.trans s1 s3)
theorem ok_lis_case {f fR : Addr} {fd fdR : FuncData} {k : Nat} (F : Fun K "_law_is_case" "_law_is_case" sLIsCase f fd) (FR : Fun K "_law_rises" "_law_rises" sLRises fR fdR) (bR : Binds K fdR ["_law_some"] []) (gR : mg "_law_rises" = some (.ref fR))
    (ml : mg "len" = none) (ma : mg "all" = none) (mis : mg "isinstance" = none) (mt : mg "tuple" = none) (mst : mg "str" = none) (mz : mg "zip" = none) : FnOk P w K mg base CX0 (k + 2) f fd ["_law_a_facets", "_law_a_thing"] spIsCase := by
  have GR : FnOk P w K mg base CX0 (k + 1) fR fdR ["_law_some"] spRises := ok_lrises FR mz ma
  refine F.ok scLIsCase (fun vs H Q E h => ?_) (fun cdv A outer s H vs Q E hr h => ?_)
  · obtain ⟨u, v, fs, c, rfl, _⟩ := h
    rfl
  · obtain ⟨u, v, fs, c, rfl, hu, hv, hfo, hfl, hvc, q⟩ := h
    refine ⟨_, pss_cons (ps_if (PW.pt (pw_or (pt_not (pt_val (pe_callB call_isi (by rfl) mis (by decide +kernel) (pa_cons (pv 1) (pa_cons (pe_bltn (v := .ty "tuple") (by rfl) mt (by decide +kernel) rfl) pa_nil)))))
          (pw_or1 (pt_cmpR op_ne (pe_callB call_len_seq (by rfl) ml PySem.boot_len (pa_cons (pv 1) pa_nil)) (pe_callB call_len_seq (by rfl) ml PySem.boot_len (pa_cons (pv 0) pa_nil)) (nomark _))))) (pss_one (ps_ret pe_bl)) pss_nil)
      (pss_cons (ps_for PassesOwn.never rfl (RZ.pi_zipA (by rfl) mz (pa_cons (pv 1) (pa_cons (pv 0) pa_nil))) (pg_tup rfl (pgs_cons (pg_name (i := 2) scLIsCase.nd rfl (.inl rfl)) (pgs_cons (pg_name (i := 3) scLIsCase.nd rfl (.inr rfl)) pgs_nil)))
        (pss_cons (ps_if (PW.pt (pw_or (pt_not (pt_val (pe_callB call_isi (by rfl) mis (by decide +kernel) (pa_cons (pv 2) (pa_cons (pe_bltn (v := .ty "tuple") (by rfl) mt (by decide +kernel) rfl) pa_nil)))))
            (pw_or (pt_cmpR (op_eqD hr.units) (pv 2) (pe_tup pa_nil) (nomark _)) (pw_or1 (pt_not (pt_val (pe_callB (cr_all rfl) (by rfl) ma (by decide +kernel) (pa_cons (pe_lc (own := [("_law_one", 4)]) (g := gName 4) (tt := tYes) (te := tCB (rIsi K) (tCons (tVar 4) (tCons (tC (.ty "str")) tNil))) rfl scLIsCase.nd (pi_tup (pv 2)) (blkOk_by (N := nLIsCase) (sc := defScope sLIsCase) (by decide +kernel))
              (fun _ _ _ _ _ => pg_name (i := 4) scLIsCase.nd rfl (.inl rfl)) (fun _ _ _ _ _ => pts_nil) (fun _ _ _ _ _ => pe_callB call_isi (by rfl) mis (by decide +kernel) (pa_cons (pv 4) (pa_cons (pe_bltn (v := .ty "str") (by rfl) mst (by decide +kernel) rfl) pa_nil)))) pa_nil)))))))) (pss_one (ps_ret pe_bl)) pss_nil)
        (pss_one (ps_if (PW.pt (pw_or (pt_not (pt_val (pe_callB (cr_all rfl) (by rfl) ma (by decide +kernel) (pa_cons (pe_lc (own := [("_law_one", 4)]) (g := gName 4) (tt := tYes) (te := tOp (rIn K false) (tVar 4) (tOp (rIxT K) (tVar 3) (tC (.int 1)))) rfl scLIsCase.nd (pi_tup (pv 2)) (blkOk_by (N := nLIsCase) (sc := defScope sLIsCase) (by decide +kernel))
              (fun _ _ _ _ _ => pg_name (i := 4) scLIsCase.nd rfl (.inl rfl)) (fun _ _ _ _ _ => pts_nil) (fun _ _ _ _ _ => pe_cmpR op_in_seq (pv 4) (pe_ix ix_tup (pv 3) pe_int (fun _ _ => rfl)) rfl)) pa_nil))))
            (pw_or1 (pt_not (pt_val (pe_call GR hr (by rfl) gR FR.kp bR .nil pass0 (pa_cons (pv 2) pa_nil))))))) (pss_one (ps_ret pe_bl)) pss_nil))))
      (pss_one (ps_ret pe_bl))), ?_⟩
    obtain ⟨a, xs, rfl, ha, hx⟩ := hu.tup_inv
    obtain ⟨b, ys, rfl, hb, hy⟩ := hv.tup_inv
    have hlx := hx.length
    have hly := hy.length
    have hlc := hvc.len
    rw [List.length_map] at hlx hly hlc
    refine ⟨.ref b, rfl, _, _, .type "tuple", _, true, rfl, .ty _, .base (.tup hb), kit_ty (by decide +kernel), _, rfl, ?_⟩
    refine ⟨.ref b, rfl, b, _, rfl, .inr (SqT.of hb), .ref a, rfl, a, _, rfl, .inr (SqT.of ha), rfl, _, rfl, ?_⟩
    rw [show decide (V.int (ys.length : Int) = V.int (xs.length : Int)) = true from decide_eq_true (by rw [hlx, hly, hlc])]
    refine ⟨.ref b, rfl, .ref a, rfl, b, a, ys, xs, rfl, .inr ⟨SqT.of hb, SqT.of ha, ?_⟩⟩
    refine for_it (walk_zipT (xs := ys) (ys := xs) rfl) (fun i σ H3 => ∃ (y2 y3 : Option V), σ = [some (.ref a), some (.ref b), y2, y3, none] ∧ Same H H3) ⟨none, none, rfl, Same.refl H⟩ ?_ ?_ ?_
    · rintro i σ H3 _ ⟨y2, y3, rfl, s3⟩
      exact ⟨SqT.of (s3 _ _ hb), SqT.of (s3 _ _ ha)⟩
    · rintro i x σ H3 H4 hi ⟨y2, y3, rfl, s3⟩ ⟨T2, x1, x2, rfl, nT2, rfl, f1, f2⟩
      have hi1 : i < fs.length := by omega
      have hi2 : i < c.length := by omega
      obtain ⟨d1, hd1, r1⟩ := hy.get f1
      obtain ⟨d2, hd2, r2⟩ := hx.get f2
      rw [List.getElem?_map, List.getElem?_eq_getElem hi2] at hd1
      rw [List.getElem?_map, List.getElem?_eq_getElem hi1] at hd2
      cases hd1
      cases hd2
      have sT : Same H3 (upd H3 T2 (.tup [x1, x2])) := same_upd nT2
      have s0 := Same.trans s3 sT
      have hT2 : upd H3 T2 (.tup [x1, x2]) T2 = some (.tup [x1, x2]) := upd_same
      generalize upd H3 T2 (.tup [x1, x2]) = G at *
      obtain ⟨p, u2, rfl, hp, hu2⟩ := (r2.same s0).dP_inv
      have r1 := r1.same s0
      obtain ⟨wp, rfl, hwp⟩ := r1.dW_inv
      obtain ⟨fp, rfl, hfp⟩ := hu2.dW_inv
      obtain ⟨h1, h2, h3⟩ := hvc.at i (by rw [List.length_map]; exact hi1) hi2
      rw [List.getElem_map] at h2
      have hfi := hfo _ (List.getElem_mem hi1)
      have hcl : c[i].length ≤ fs[i].2.length := len_le (pairwise_nodup h3) h2
      have hcw : ∀ x ∈ c[i], Wd x := fun x hx => hfi.2.2.2.1 x (h2 x hx)
      refine ⟨T2, _, rfl, SqT.of hT2, rfl, _, _, rfl, _, _, rfl, rfl, ?_⟩
      refine ⟨.ref wp, rfl, _, _, .type "tuple", _, true, rfl, .ty _, .base (.tup hwp), kit_ty (by decide +kernel), _, rfl, ?_⟩
      refine ⟨.ref wp, rfl, Nat.zero_le _, fun z nz => ?_⟩
      have s1 : Same G (upd G z (.tup [])) := same_upd nz
      have hz : upd G z (.tup []) z = some (.tup []) := upd_same
      generalize upd G z (.tup []) = G1 at *
      refine ⟨dW c[i], .tuple [], (r1.same s1).dp, Rp.dp (.tup hz .nil), shaped_of (lay_dW hcw) (Nat.le_trans (dep_dW _) (by decide)), by decide, _, rfl, ?_⟩
      have hne : PyData.eqv (dW c[i]) (.tuple []) = false := by
        unfold dW
        rw [eqv_nil_t]
        cases e : c[i] with
        | nil => exact absurd e h1
        | cons _ _ => rfl
      rw [hne]
      have hwp1 := s1 _ _ hwp
      refine ⟨.ref wp, rfl, wp, rfl, ⟨_, SqT.of hwp1⟩, fun D nD => ?_⟩
      refine true_lc (walk_tup (xs := c[i].map V.str)) nD (by rw [List.length_map]; omega) (fun H5 s5 => SqT.of (s5 _ _ hwp1)) (fun j y H5 H6 Qy hj s5 yy qy => ?_) (fun H5 bs s5 d5 b5 => ?_)
      · obtain ⟨rfl, fy⟩ := yy
        rw [List.length_map] at hj
        rw [List.getElem?_map, List.getElem?_eq_getElem hj] at fy
        cases fy
        exact ⟨rfl, _, rfl, _, _, .type "str", _, true, rfl, .ty _, .base (.str _), kit_ty (by decide +kernel), qy _ (Same.refl _)⟩
      · refine ⟨D, bs, rfl, SqL.of d5, _, rfl, ?_⟩
        rw [b5]
        have s15 := Same.trans s1 s5
        have hwp5 := s15 _ _ hwp
        refine ⟨.ref wp, rfl, wp, rfl, ⟨_, SqT.of hwp5⟩, fun D2 nD2 => ?_⟩
        refine true_lc (walk_tup (xs := c[i].map V.str)) nD2 (by rw [List.length_map]; omega) (fun H7 s7 => SqT.of (s7 _ _ hwp5)) (fun j y H7 H8 Qy hj s7 yy qy => ?_) (fun H7 bs2 s7 d7 b7 => ?_)
        · obtain ⟨rfl, fy⟩ := yy
          rw [List.length_map] at hj
          rw [List.getElem?_map, List.getElem?_eq_getElem hj] at fy
          cases fy
          have s17 := Same.trans s15 s7
          refine ⟨rfl, _, rfl, .ref p, rfl, p, _, 1, _, rfl, rfl, SqT.of (s17 _ _ hp), rfl, fp, _, rfl, .inr (SqT.of (s17 _ _ hfp)), rfl, all_flat _, ?_⟩
          have hin : inV (V.str c[i][j]) (fs[i].2.map V.str) = true := (isIn_iff fs[i].2 c[i][j]).mpr (h2 _ (List.getElem_mem hj))
          rw [if_neg Bool.false_ne_true, hin]
          exact qy _ (Same.refl _)
        · refine ⟨D2, bs2, rfl, SqL.of d7, _, rfl, ?_⟩
          rw [b7]
          have s17 := Same.trans s15 s7
          refine ⟨.ref wp, rfl, .ref wp, c[i], rfl, r1.same s17, by omega, h3, fun H9 s9 => ⟨_, rfl, ?_⟩⟩
          exact ⟨_, _, rfl, Same.trans s0 (Same.trans s17 s9)⟩
    · rintro σ H3 ⟨y2, y3, rfl, s3⟩
      exact q _ s3
/-! ### cases_right -/
def spCR (n : Nat) : Sp := fun vs H Q _ => ∃ (fv wv : V) (a : Addr) (fs : List (Str × List Str)) (wn : Wn) (cs : List Cse), vs = [fv, wv, .ref a] ∧ Rp H fv (dF fs) ∧ Rp H wv (dN wn) ∧ Rp H (.ref a) (.list (cs.map dC)) ∧ FOk fs ∧ 1 ≤ fs.length ∧ fs.length ≤ 4 ∧ WOk fs wn ∧ dep wn ≤ n ∧
  Good fs wn cs ∧ ∀ H', Same H H' → Q (.bl true) H'
theorem ok_cr {f fS fI fA fO : Addr} {fd fdS fdI fdA fdO : FuncData} {n : Nat} (F : Fun K "_law_cases_right" "_law_cases_right" sCR f fd)
    (FS : Fun K "_law_settings" "_law_settings" sLSettings fS fdS) (bS : Binds K fdS ["_law_some"] []) (gS : mg "_law_settings" = some (.ref fS)) (GS : FnOk P w K mg base CX0 (n + 3) fS fdS ["_law_some"] spSettingsA)
    (FI : Fun K "_law_is_case" "_law_is_case" sLIsCase fI fdI) (bI : Binds K fdI ["_law_a_facets", "_law_a_thing"] []) (gI : mg "_law_is_case" = some (.ref fI)) (GI : FnOk P w K mg base CX0 (n + 3) fI fdI ["_law_a_facets", "_law_a_thing"] spIsCase)
    (FA : Fun K "_law_all" "_law_all" sAll fA fdA) (bA : Binds K fdA ["_law_a_facets"] []) (gA : mg "_law_all" = some (.ref fA)) (GA : FnOk P w K mg base CX0 (n + 3) fA fdA ["_law_a_facets"] spAll)
    (FO : Fun K "_law_holds" "_law_holds" sLHolds fO fdO) (bO : Binds K fdO ["_law_its_facets", "_law_its_when", "_law_setting"] []) (gO : mg "_law_holds" = some (.ref fO)) (GO : FnOk P w K mg base CX0 (n + 3) fO fdO ["_law_its_facets", "_law_its_when", "_law_setting"] (spHolds n))
    (ma : mg "all" = none) (mis : mg "isinstance" = none) (mls : mg "list" = none) (ms : mg "sorted" = none) : FnOk P w K mg base CX0 (n + 4) f fd ["_law_a_facets", "_law_a_when", "_law_a_thing"] (spCR n) := by
  refine F.ok scCR (fun vs H Q E h => ?_) (fun cdv A outer s H vs Q E hr h => ?_)
  · obtain ⟨fv, wv, a, fs, wn, cs, rfl, _⟩ := h
    rfl
  · obtain ⟨fv, wv, a, fs, wn, cs, rfl, hf, hw, ha, hfo, hf1, hf4, hok, hd, hgood, q⟩ := h
    refine ⟨_, pss_cons (ps_if (PW.pt (pw_or (pt_not (pt_val (pe_callB call_isi (by rfl) mis (by decide +kernel) (pa_cons (pv 2) (pa_cons (pe_bltn (v := .ty "list") (by rfl) mls (by decide +kernel) rfl) pa_nil)))))
          (pw_or1 (pt_not (pt_val (pe_callB (cr_all rfl) (by rfl) ma (by decide +kernel) (pa_cons (pe_lc (own := [("_law_one", 3)]) (g := gName 3) (tt := tYes) (te := tCall spIsCase [] E0 (tCons (tVar 0) (tCons (tVar 3) tNil))) rfl scCR.nd (pi_list (pv 2)) (blkOk_by (N := nCR) (sc := defScope sCR) (by decide +kernel))
          (fun _ _ _ _ _ => pg_name (i := 3) scCR.nd rfl (.inl rfl)) (fun _ _ _ _ _ => pts_nil) (fun _ _ _ _ _ => pe_call GI hr (by rfl) gI FI.kp bI .nil pass0 (pa_cons (pv 0) (pa_cons (pv 3) pa_nil)))) pa_nil))))))) (pss_one (ps_ret pe_bl)) pss_nil)
      (pss_cons (ps_set (i := 4) scCR.nd rfl (.inl rfl) (pe_lst pa_nil))
      (pss_cons (ps_for PassesOwn.never rfl (pi_list (pv 2)) (pg_name (i := 3) scCR.nd rfl (.inl rfl)) (pss_one (ps_set (i := 4) scCR.nd rfl (.inl rfl) (pe_op op_cat (pv 4) (pe_call GS hr (by rfl) gS FS.kp bS .nil pass0 (pa_cons (pv 3) pa_nil))))))
      (pss_one (ps_ret (pe_cmpR (op_eqD hr.units) (pe_callB (cr_sortedW (hu65 hr)) (by rfl) ms (by decide +kernel) (pa_cons (pv 4) pa_nil))
          (pe_lc (own := [("_law_setting", 5)]) (g := gName 5) (tt := tTest (tCall (spHolds n) [] E0 (tCons (tVar 0) (tCons (tVar 1) (tCons (tVar 5) tNil))))) (te := tVar 5) rfl scCR.nd (pi_list (pe_call GA hr (by rfl) gA FA.kp bA .nil pass0 (pa_cons (pv 0) pa_nil))) (blkOk_by (N := nCR) (sc := defScope sCR) (by decide +kernel))
            (fun _ _ _ _ _ => pg_name (i := 5) scCR.nd rfl (.inl rfl)) (fun _ _ _ _ _ => pts_one (pt_val (pe_call GO hr (by rfl) gO FO.kp bO .nil pass0 (pa_cons (pv 0) (pa_cons (pv 1) (pa_cons (pv 5) pa_nil)))))) (fun _ _ _ _ _ => pv 5)) (nomark _)))))), ?_⟩
    have hW := COk.of hfo hf4
    have hWl : (fs.map (·.2)).length = fs.length := List.length_map _
    have hvc := hgood.1.1
    have hfl : (cs.flatMap settingsM).length ≤ 256 := hgood.1.flat_few hW
    have hfew : cs.length ≤ 256 := hgood.1.few hW
    obtain ⟨us, ha0, hr0⟩ := ha.lst_inv
    have hlu := hr0.length
    rw [List.length_map] at hlu
    refine ⟨.ref a, rfl, _, _, .type "list", _, true, rfl, .ty _, .base (.lst ha0), kit_ty (by decide +kernel), _, rfl, ?_⟩
    refine ⟨.ref a, rfl, a, rfl, ⟨us, SqL.of ha0⟩, fun D nD => ?_⟩
    refine true_lc (walk_list (xs := us)) nD (by omega) (fun H3 s3 => SqL.of (s3 _ _ ha0)) (fun i x H3 H4 Qy hi s3 y qy => ?_) (fun H3 bs s3 d3 b3 => ?_)
    · obtain ⟨rfl, fx⟩ := y
      obtain ⟨d, hdd, hxo⟩ := hr0.get fx
      have hic : i < cs.length := by omega
      rw [List.getElem?_map, List.getElem?_eq_getElem hic] at hdd
      cases hdd
      exact ⟨rfl, fv, rfl, x, rfl, fv, x, fs, cs[i], rfl, hf.same s3, hxo.same s3, hfo, hf4, hvc _ (List.getElem_mem hic), fun H5 s5 => qy _ s5⟩
    · refine ⟨D, bs, rfl, SqL.of d3, _, rfl, ?_⟩
      rw [b3]
      refine ⟨Nat.zero_le _, fun l nl => ?_⟩
      have ha3 := s3 _ _ ha0
      have sl := same_upd (o := .lst []) nl
      refine ⟨.ref a, rfl, a, rfl, ⟨us, SqL.of (sl _ _ ha3)⟩, ?_⟩
      refine for_it (walk_list (xs := us)) (fun i σ G => ∃ (y3 : Option V) (l : Addr), σ = [some fv, some wv, some (.ref a), y3, some (.ref l), none] ∧ Same H3 G ∧ Rp G (.ref l) (.list (((cs.take i).flatMap settingsM).map dW))) ⟨none, l, rfl, sl, .lst upd_same .nil⟩ ?_ ?_ ?_
      · rintro i σ G _ ⟨y3, l, rfl, sG, _⟩
        exact SqL.of (sG _ _ ha3)
      · rintro i x σ G0 G hi ⟨y3, l, rfl, sG, hl⟩ ⟨rfl, fx⟩
        obtain ⟨d, hdd, hxo⟩ := hr0.get fx
        have hic : i < cs.length := by omega
        rw [List.getElem?_map, List.getElem?_eq_getElem hic] at hdd
        cases hdd
        have hxo := hxo.same (Same.trans s3 sG)
        refine ⟨.ref l, rfl, x, rfl, x, cs[i], rfl, .inl hxo, (hvc _ (List.getElem_mem hic)).ok hW, fun p H5 s5 np hp => ?_⟩
        obtain ⟨zs, hp0, hp1⟩ := hp.lst_inv
        obtain ⟨ls, hl0, hl1⟩ := (hl.same s5).lst_inv
        have e1 := hl1.length
        have e2 := hp1.length
        rw [List.length_map] at e1 e2
        have hfls : ((cs.take i).flatMap settingsM).length + (settingsM cs[i]).length ≤ (cs.flatMap settingsM).length := by
          rw [← List.length_append, ← flat_succ settingsM cs i hic]
          have e3 := congrArg (List.flatMap settingsM) (List.take_append_drop (i + 1) cs)
          rw [List.flatMap_append] at e3
          rw [← e3, List.length_append]
          exact Nat.le_add_right _ _
        refine ⟨l, p, ls, zs, rfl, rfl, hl0, hp0, sz _ (by omega), fun z nz => ?_⟩
        have sz' := same_upd (o := .lst (ls ++ zs)) nz
        refine ⟨some x, z, rfl, Same.trans sG (Same.trans s5 sz'), .lst upd_same ?_⟩
        rw [flat_succ _ _ _ hic, List.map_append]
        exact (hl1.same sz').append (hp1.same sz')
      · rintro σ G ⟨y3, l, rfl, sG, hl⟩
        rw [hlu, List.take_length] at hl
        have hlen1 : ∀ s ∈ cs.flatMap settingsM, s.length = (fs.length - 1) + 1 := fun s hs => by
          have := ((mem_settings _ s).mp (Cs.sub hvc s hs)).len
          rw [hWl] at this
          omega
        refine ⟨.ref l, rfl, ?_⟩
        dsimp only [tNil]
        refine sorted_use hl hlen1 (by omega) fun p H6 bs' s6 np e6 hp6 => ?_
        have s06 : Same H H6 := Same.trans s3 (Same.trans sG s6)
        refine ⟨fv, rfl, fv, fs, rfl, hf.same s06, hfo, hf4, fun ev H2 s2 nev hev => ?_⟩
        obtain ⟨es, he0, he1⟩ := hev.lst_inv
        have hle := he1.length
        rw [List.length_map] at hle
        have s02 := Same.trans s06 s2
        refine ⟨ev, rfl, ⟨es, SqL.of he0⟩, fun D3 nD3 => ?_⟩
        refine gen_lc (walk_list (xs := es)) (fun i => holdsM fs ((settingsM (fs.map (·.2))).getD i []) wn) (fun i => dW ((settingsM (fs.map (·.2))).getD i [])) (fun _ => imm_dW _) nD3 (by have := all_few hW; omega) (fun H7 s7 => SqL.of (s7 _ _ he0)) (fun i x H7 H8 Qy Qn hi s7 y hy hn => ?_) (fun H7 ts2 s7 d7 r7 => ?_)
        · obtain ⟨rfl, fx⟩ := y
          obtain ⟨dd, hdd, hxo⟩ := he1.get fx
          have hie : i < (settingsM (fs.map (·.2))).length := by omega
          rw [List.getElem?_map, List.getElem?_eq_getElem hie] at hdd
          cases hdd
          simp only [getD_lt [] hie] at hy hn
          have hsl := settings_len (List.getElem_mem hie)
          rw [hWl] at hsl
          have hxo7 := hxo.same s7
          refine ⟨rfl, fv, rfl, wv, rfl, x, rfl, fv, wv, x, fs, wn, _, rfl, hf.same (Same.trans s02 s7), hw.same (Same.trans s02 s7), hxo7, hok, hd, hsl, by omega, fun H9 s9 => ⟨_, rfl, ?_⟩⟩
          dsimp only
          by_cases hh : holdsM fs (settingsM (fs.map (·.2)))[i] wn = true
          · rw [if_pos hh]
            exact ⟨x, rfl, hy hh _ _ s9 (hxo7.same s9)⟩
          · rw [if_neg hh]
            exact hn (by simpa using hh) _ s9
        · rw [hle, range_pick dW (fun s => holdsM fs s wn) []] at r7
          refine ⟨.list (((bs'.mergeSort fun x y => leW x.2 y.2).map (·.2)).map dW), .list ((dueM fs wn).map dW), (hp6.same (Same.trans s2 s7)).dp, Rp.dp (.lst d7 r7), shaped_ss hW (told_in_all hvc e6), shaped_ss hW due_in, ?_⟩
          rw [told_eqv hfo (.inl ⟨rfl, hgood⟩) e6]
          exact q _ (Same.trans s02 s7)
end
end Sg

namespace Sg
open PySem PySem.Spec PyProof.Rows L2
def swapG {α : Type} : List α → List α → List α
  | [], [x, y] => [y, x]
  | _, _ => []
theorem swapG_rel {vs zs : List V} {us ws : List Value} (r1 : Vals vs us) (r2 : Vals zs ws) : Vals (swapG vs zs) (swapG us ws) := by
  cases r1 with
  | cons _ _ => exact .nil
  | nil =>
    cases r2 with
    | nil => exact .nil
    | cons a r3 =>
      cases r3 with
      | nil => exact .nil
      | cons b r4 =>
        cases r4 with
        | nil => exact .cons b (.cons a .nil)
        | cons _ _ => exact .nil
theorem kb_swap {K : PySem.W.Frag} {x : Str} {st : Stmt} {f : Addr} {fd : FuncData} (F : Fun K x x st f fd) {a b : Str}
    (h : ∀ (kV doc pm : Value) (an : Option Addr) (cdv ct : Value) (u v : Value), bindArgs (PySem.W.fnOf x x (defArgs st) (defBody st) (defScope st) .none kV doc pm an cdv ct) ⟨[], [(b, v), (a, u)]⟩ = pure [(a, u), (b, v)]) : KBinds K fd [a, b] [b, a] swapG swapG := by
  obtain ⟨oc, od, kV, doc, pm, an, cdv, ct, osl, rfl, lk, hcd⟩ := F.ex
  refine ⟨fun s us ws _ hl => ?_, swapG_rel⟩
  match us, ws, hl with
  | [], [v, u], _ => exact .of_eq (h kV doc pm an cdv ct u v)
def rev3G {α : Type} : List α → List α → List α
  | [], [x, y, z] => [z, y, x]
  | _, _ => []
theorem rev3G_rel {vs zs : List V} {us ws : List Value} (r1 : Vals vs us) (r2 : Vals zs ws) : Vals (rev3G vs zs) (rev3G us ws) := by
  cases r1 with
  | cons _ _ => exact .nil
  | nil =>
    cases r2 with
    | nil => exact .nil
    | cons a r3 =>
      cases r3 with
      | nil => exact .nil
      | cons b r4 =>
        cases r4 with
        | nil => exact .nil
        | cons c r5 =>
          cases r5 with
          | nil => exact .cons c (.cons b (.cons a .nil))
          | cons _ _ => exact .nil
theorem kb_rev3 {K : PySem.W.Frag} {x : Str} {st : Stmt} {f : Addr} {fd : FuncData} (F : Fun K x x st f fd) {a b c : Str}
    (h : ∀ (kV doc pm : Value) (an : Option Addr) (cdv ct : Value) (u v w : Value), bindArgs (PySem.W.fnOf x x (defArgs st) (defBody st) (defScope st) .none kV doc pm an cdv ct) ⟨[], [(c, w), (b, v), (a, u)]⟩ = pure [(a, u), (b, v), (c, w)]) : KBinds K fd [a, b, c] [c, b, a] rev3G rev3G := by
  obtain ⟨oc, od, kV, doc, pm, an, cdv, ct, osl, rfl, lk, hcd⟩ := F.ex
  refine ⟨fun s us ws _ hl => ?_, rev3G_rel⟩
  match us, ws, hl with
  | [], [w, v, u], _ => exact .of_eq (h kV doc pm an cdv ct u v w)
/-! ### repr of cases -/
theorem bulk_map {α : Type} {f : α → PyData} {b : Nat} : ∀ {xs : List α}, (∀ x ∈ xs, (f x).bulk ≤ b) → PyData.bulkAll (xs.map f) ≤ xs.length * (b + 1)
  | [], _ => Nat.zero_le _
  | x :: xs, h => by
    rw [List.map_cons, List.length_cons, Nat.succ_mul]
    show (f x).bulk + 1 + PyData.bulkAll (xs.map f) ≤ _
    have h1 := h x (List.mem_cons_self ..)
    have h2 := bulk_map (xs := xs) fun y hy => h y (List.mem_cons_of_mem _ hy)
    omega
theorem short_map {α : Type} {f : α → PyData} {b : Nat} : ∀ {xs : List α}, (∀ x ∈ xs, (f x).leavesShort b = true) → PyData.leavesShortAll b (xs.map f) = true
  | [], _ => rfl
  | x :: xs, h => by
    rw [List.map_cons]
    show ((f x).leavesShort b && PyData.leavesShortAll b (xs.map f)) = true
    rw [h x (List.mem_cons_self ..), short_map fun y hy => h y (List.mem_cons_of_mem _ hy)]
    rfl
theorem show_map {α : Type} {f : α → PyData} : ∀ {xs : List α}, (∀ x ∈ xs, (f x).showable = true) → PyData.showableAll (xs.map f) = true
  | [], _ => rfl
  | x :: xs, h => by
    rw [List.map_cons]
    show ((f x).showable && PyData.showableAll (xs.map f)) = true
    rw [h x (List.mem_cons_self ..), show_map fun y hy => h y (List.mem_cons_of_mem _ hy)]
    rfl
theorem bulk_dW {ws : List Str} (h : ∀ x ∈ ws, Wd x) (hl : ws.length ≤ 4) : (dW ws).bulk ≤ 68 := by
  have : PyData.bulkAll (ws.map .str) ≤ ws.length * (16 + 1) := bulk_map fun x hx => (h x hx).1
  show PyData.bulkAll (ws.map .str) ≤ 68
  omega
theorem short_dW {ws : List Str} (h : ∀ x ∈ ws, Wd x) : (dW ws).leavesShort 8 = true := short_map (f := PyData.str) fun x hx => by
  show (x.cps.toList.all fun c => decide (c < 16 ^ 8)) = true
  rw [List.all_eq_true]
  intro c hc
  have := (h x hx).2 c hc
  exact decide_eq_true (Nat.lt_of_le_of_lt this.2 (by decide))
theorem bulk_dC {c : Cse} (h : COk c) : (dC c).bulk ≤ 276 := by
  have : PyData.bulkAll (c.map dW) ≤ c.length * (68 + 1) := bulk_map fun ws hw => bulk_dW (h.2 ws hw).2.2 (h.2 ws hw).2.1
  have h4 := h.1
  show PyData.bulkAll (c.map dW) ≤ 276
  omega
theorem short_dC {c : Cse} (h : COk c) : (dC c).leavesShort 8 = true := short_map (f := dW) fun ws hw => short_dW (h.2 ws hw).2.2
theorem show_dW (ws : List Str) : (dW ws).showable = true := show_map (f := PyData.str) fun _ _ => rfl
theorem show_dC (c : Cse) : (dC c).showable = true := show_map (f := dW) fun ws _ => show_dW ws
theorem COk.lay {c : Cse} (h : COk c) : (dC c).canLay0 = true := lay_dC fun ws hw => (h.2 ws hw).2.2
theorem repr_ok {cs : List Cse} (h : ∀ c ∈ cs, COk c) (hl : cs.length ≤ 256) : (PyData.list (cs.map dC)).showable = true ∧ (PyData.list (cs.map dC)).hasDict = false ∧ (PyData.list (cs.map dC)).depth ≤ 60 ∧ (PyData.list (cs.map dC)).shown.length ≤ sizeLine := by
  have hb : (PyData.list (cs.map dC)).bulk ≤ cs.length * (276 + 1) := bulk_map fun c hc => bulk_dC (h c hc)
  have hs : (PyData.list (cs.map dC)).leavesShort 8 = true := short_map fun c hc => short_dC (h c hc)
  refine ⟨show_map fun c _ => show_dC c, PyData.hasDict_of_canLay _ (canLayAll_map fun c hc => (h c hc).lay), ?_, ?_⟩
  · show PyData.depthAll (cs.map dC) + 1 ≤ 60
    have := depthAll_map (k := 2) (f := dC) (xs := cs) fun c _ => dep_dC c
    omega
  · have h1 := PyData.shown_le_bulk 8 (by decide) _ hs
    have h2 : cs.length * (276 + 1) ≤ 256 * 277 := Nat.mul_le_mul_right _ hl
    refine Nat.le_trans h1 ?_
    show (8 + 2) * (PyData.list (cs.map dC)).bulk + 8 ≤ 2 ^ 24
    omega
theorem Good.empty {fs : List (Str × List Str)} {wn : Wn} {cs : List Cse} (h : Good fs wn cs) : cs.isEmpty = (dueM fs wn).isEmpty := by
  cases cs with
  | nil =>
    cases e : dueM fs wn with
    | nil => rfl
    | cons s r =>
      have := (h.mem s).mpr (by rw [e]; exact List.mem_cons_self ..)
      cases this
  | cons c cs =>
    cases e : dueM fs wn with
    | cons s r => rfl
    | nil =>
      have hi := in_pick (h.1.1 c (List.mem_cons_self ..))
      have := (h.mem (pickM c)).mp ((mem_flat _ _).mpr ⟨c, List.mem_cons_self .., hi⟩)
      rw [e] at this
      cases this
def dM : Option Cse → PyData
  | some c => dC c
  | none => .str "more"
theorem more_map (cs : List Cse) : (cs.map some ++ [none]).map dM = cs.map dC ++ [.str "more"] := by
  rw [List.map_append, List.map_map]
  rfl
theorem more_eqv (cs : List Cse) : PyData.eqv (.list (cs.map dC ++ [.str "more"])) (.list [.str "more"]) = cs.isEmpty := by
  cases cs with
  | nil =>
    rw [PyData.eqv]
    rfl
  | cons c cs =>
    rw [PyData.eqv, List.map_cons, List.cons_append, PySem.W.eqv_all_cons]
    unfold dC
    simp [PyData.eqv]
theorem more_shaped {cs : List Cse} (h : ∀ c ∈ cs, COk c) : SeqAt.shaped (.list (cs.map dC ++ [.str "more"])) = true := by
  rw [← more_map]
  refine shaped_of (canLayAll_map fun o ho => ?_) ?_
  · cases o with
    | none =>
      show PyData.strOk (Str.ofString "more") = true
      decide +kernel
    | some c =>
      rcases List.mem_append.mp ho with z | z
      · obtain ⟨d, hd, e⟩ := List.mem_map.mp z
        cases e
        exact (h c hd).lay
      · cases List.mem_singleton.mp z
  · show PyData.depthAll ((cs.map some ++ [none]).map dM) + 1 ≤ 64
    have := depthAll_map (k := 2) (f := dM) (xs := cs.map some ++ [none]) fun o _ => by
      cases o with
      | none => exact Nat.zero_le _
      | some c => exact dep_dC c
    omega
end Sg

namespace Sg
open PySem PySem.Spec PyProof.Rows L2
abbrev sRight : Stmt := topS 33
abbrev nRight : List Str := ["_law_tape_here", "_law_a_facets", "_law_one", "_law_some", "_law_a_when", "_law_told", "_law_due", "_law_alone", "_law_kept", "_law_every", "_law_turn", "_law_setting", "_law_word"]
theorem scRight : FnScope nRight ["_law_tape_here"] (defScope sRight) := ⟨rfl, rfl, rfl, by decide +kernel, rfl, by decide +kernel, by decide +kernel⟩
abbrev scIn : Scope := { kind := ScopeKind.function, names := [(Str.ofString ".0", NameKind.local), (Str.ofString "_law_setting", NameKind.local), (Str.ofString "tuple", NameKind.globalImplicit)], isGenerator := false, isCoroutine := false }
theorem range_all {α β : Type} (f : α → β) (z : α) (xs : List α) : ((List.range xs.length).filter fun _ => true).map (fun i => f (xs.getD i z)) = xs.map f := by
  rw [List.filter_eq_self.mpr (fun _ _ => rfl)]
  exact range_map f z xs
theorem RpAll.rev {H : Hp} : ∀ {vs : List V} {ds : List PyData}, RpAll H vs ds → RpAll H vs.reverse ds.reverse
  | _, _, .nil => .nil
  | _, _, .cons h hs => by
    rw [List.reverse_cons, List.reverse_cons]
    exact (RpAll.rev hs).append (.cons h .nil)
section
variable {P : Program} {w : World} {K : PySem.W.Frag} {mg : Str → Option Value} {base : Heap}
def spRight : Sp := fun vs H Q _ => ∃ (t : Addr), vs = [.ref t] ∧ TapeAt H t 0 ∧ ∀ (H' : Hp), Ex t H H' → Q (.bl true) H'
theorem ok_right {f fD fF fW fC fR fS fA fH fP : Addr} {fd fdD fdF fdW fdC fdR fdS fdA fdH fdP : FuncData} (F : Fun K "_law_right" "_law_right" sRight f fd)
    (FD : Fun K "_law_draw" "_law_draw" sDraw fD fdD) (bD : Binds K fdD ["_law_tape_here", "_law_many"] []) (gD : mg "_law_draw" = some (.ref fD)) (GD : FnOk P w K mg base CX0 9 fD fdD ["_law_tape_here", "_law_many"] spDraw)
    (FF : Fun K "_law_facets" "_law_facets" sFacets fF fdF) (bF : Binds K fdF ["_law_tape_here", "_law_many", "_law_most"] []) (gF : mg "_law_facets" = some (.ref fF)) (GF : FnOk P w K mg base CX0 9 fF fdF ["_law_tape_here", "_law_many", "_law_most"] spFacets)
    (FW : Fun K "_law_when" "_law_when" sWhen fW fdW) (bW : Binds K fdW ["_law_tape_here", "_law_its_facets", "_law_deep"] []) (gW : mg "_law_when" = some (.ref fW)) (GW : FnOk P w K mg base CX0 9 fW fdW ["_law_tape_here", "_law_its_facets", "_law_deep"] (spWhen 3))
    (FC : Fun K "cases_of" "cases_of" sCases fC fdC) (bC : Binds K fdC ["facets", "when"] []) (kC : KBinds K fdC ["facets", "when"] ["when", "facets"] swapG swapG) (gC : mg "cases_of" = some (.ref fC)) (GC : FnOk P w K mg base CX0 9 fC fdC ["facets", "when"] (spCases 4))
    (FR : Fun K "_law_cases_right" "_law_cases_right" sCR fR fdR) (bR : Binds K fdR ["_law_a_facets", "_law_a_when", "_law_a_thing"] []) (gR : mg "_law_cases_right" = some (.ref fR)) (GR : FnOk P w K mg base CX0 9 fR fdR ["_law_a_facets", "_law_a_when", "_law_a_thing"] (spCR 4))
    (FS : Fun K "shows_cases" "shows_cases" sShows fS fdS) (bS : Binds K fdS ["facets", "when", "thing"] []) (kS : KBinds K fdS ["facets", "when", "thing"] ["thing", "when", "facets"] rev3G rev3G) (gS : mg "shows_cases" = some (.ref fS)) (GS : FnOk P w K mg base CX0 9 fS fdS ["facets", "when", "thing"] (spShows 4))
    (FA : Fun K "_law_all" "_law_all" sAll fA fdA) (bA : Binds K fdA ["_law_a_facets"] []) (gA : mg "_law_all" = some (.ref fA)) (GA : FnOk P w K mg base CX0 9 fA fdA ["_law_a_facets"] spAll)
    (FH : Fun K "_law_holds" "_law_holds" sLHolds fH fdH) (bH : Binds K fdH ["_law_its_facets", "_law_its_when", "_law_setting"] []) (gH : mg "_law_holds" = some (.ref fH)) (GH : FnOk P w K mg base CX0 9 fH fdH ["_law_its_facets", "_law_its_when", "_law_setting"] (spHolds 4))
    (FP : Fun K "_law_part" "_law_part" sPart fP fdP) (bP : Binds K fdP ["_law_tape_here", "_law_some", "_law_many"] []) (gP : mg "_law_part" = some (.ref fP)) (GP : FnOk P w K mg base CX0 9 fP fdP ["_law_tape_here", "_law_some", "_law_many"] spPart)
    (ml : mg "len" = none) (mr : mg "range" = none) (mt : mg "tuple" = none) (mre : mg "repr" = none) : FnG P w K mg base 10 f fd ["_law_tape_here"] spRight := by
  refine okG F scRight (fun vs H Q E h => ?_) (fun cdv B fr z H vs Q E hgd hr h => ?_)
  · obtain ⟨t, rfl, _⟩ := h
    rfl
  · obtain ⟨t, rfl, hT, q⟩ := h
    refine ⟨_, (pss_cons (ps_set (i := 1) scRight.nd rfl (.inr rfl) (pe_call GF hr (by rfl) gF FF.kp bF .nil pass0 (pa_cons (pv 0) (pa_cons (pe_ix ix_list (pe_lst (pa_cons (pe_op op_add pe_int (pe_call GD hr (by rfl) gD FD.kp bD .nil pass0 (pa_cons (pv 0) (pa_cons pe_int pa_nil)))) (pa_cons pe_int pa_nil))) (pe_call GD hr (by rfl) gD FD.kp bD .nil pass0 (pa_cons (pv 0) (pa_cons pe_int pa_nil))) (fun _ _ => rfl)) (pa_cons (pe_op op_add pe_int (pe_call GD hr (by rfl) gD FD.kp bD .nil pass0 (pa_cons (pv 0) (pa_cons pe_int pa_nil)))) pa_nil)))))
        (pss_cons (ps_set (i := 2) scRight.nd rfl (.inl rfl) (pe_call GW hr (by rfl) gW FW.kp bW .nil pass0 (pa_cons (pv 0) (pa_cons (pv 1) (pa_cons pe_int pa_nil)))))
        (pss_cons (ps_set (i := 3) scRight.nd rfl (.inl rfl) (pe_lst (pa_cons (pe_tup (pa_cons pe_str (pa_cons (pv 2) (pa_cons (pe_tup (pa_cons pe_str (pa_cons (pv 2) pa_nil))) pa_nil)))) (pa_cons (pe_tup (pa_cons pe_str (pa_cons (pv 2) (pa_cons (pe_tup (pa_cons pe_str (pa_cons (pv 2) pa_nil))) pa_nil)))) (pa_cons (pv 2) pa_nil)))))
        (pss_cons (ps_for PassesOwn.never rfl (pi_list (pe_op op_cat (pv 3) (pe_lc (own := [("_law_turn", 10)]) (g := gName 10) (tt := tYes) (te := tCall (spWhen 3) [] E0 (tCons (tVar 0) (tCons (tVar 1) (tCons (tC (.int 3)) tNil)))) rfl scRight.nd (pi_range1 rfl mr (pa_cons pe_int pa_nil)) (blkOk_by (N := nRight) (sc := defScope sRight) (by decide +kernel)) (fun _ _ _ _ _ => (pg_name (i := 10) scRight.nd rfl (.inl rfl))) (fun _ _ _ _ _ => pts_nil) (fun _ _ _ _ _ => (pe_call GW hr (by rfl) gW FW.kp bW .nil pass0 (pa_cons (pv 0) (pa_cons (pv 1) (pa_cons pe_int pa_nil)))))))) (pg_name (i := 4) scRight.nd rfl (.inr rfl))
        (pss_cons (ps_set (i := 5) scRight.nd rfl (.inl rfl) (pe_call GC hr (by rfl) gC FC.kp bC .nil pass0 (pa_cons (pv 1) (pa_cons (pv 4) pa_nil))))
        (pss_cons (ps_if (PW.pt (pw_or (pt_not (pt_val (pe_call GR hr (by rfl) gR FR.kp bR .nil pass0 (pa_cons (pv 1) (pa_cons (pv 4) (pa_cons (pv 5) pa_nil)))))) (pw_or1 (pt_cmpR op_isnot_bl (pe_call GS hr (by rfl) gS FS.kp bS .nil pass0 (pa_cons (pv 1) (pa_cons (pv 4) (pa_cons (pv 5) pa_nil)))) pe_bl (nomark _))))) (pss_one (ps_ret pe_bl)) pss_nil)
        (pss_cons (ps_setLc (i := 6) (own := [("_law_setting", 11)]) (g := gName 11) (tt := tTest (tCall (spHolds 4) [] E0 (tCons (tVar 1) (tCons (tVar 4) (tCons (tVar 11) tNil))))) (te := tVar 11) rfl scRight.nd rfl rfl (sw_true rfl rfl rfl (by decide +kernel)) (pi_list (pe_call GA hr (by rfl) gA FA.kp bA .nil pass0 (pa_cons (pv 1) pa_nil))) (blkOk_by (N := nRight) (sc := defScope sRight) (by decide +kernel)) (fun _ _ _ _ _ => (pg_name (i := 11) scRight.nd rfl (.inl rfl))) (fun _ _ _ _ _ => pts_one (pt_val (pe_call GH hr (by rfl) gH FH.kp bH .nil pass0 (pa_cons (pv 1) (pa_cons (pv 4) (pa_cons (pv 11) pa_nil)))))) (fun _ _ _ _ _ => pv 11))
        (pss_cons (ps_setLc (i := 7) (own := [("_law_setting", 11)]) (g := gName 11) (tt := tYes) (te := tThen (tLc (iTup K (tVar 11)) (gName 12) tYes (tTup (tCons (tVar 12) tNil)) [12]) (kTup K)) rfl scRight.nd rfl rfl (sw_true rfl rfl rfl (by decide +kernel)) (pi_list (pe_call GP hr (by rfl) gP FP.kp bP .nil pass0 (pa_cons (pv 0) (pa_cons (pv 6) (pa_cons (pe_callB call_len_seq (by rfl) ml PySem.boot_len (pa_cons (pv 6) pa_nil)) pa_nil))))) (blkOk_by (N := nRight) (sc := defScope sRight) (by decide +kernel)) (fun _ _ _ _ _ => (pg_name (i := 11) scRight.nd rfl (.inl rfl))) (fun _ _ _ _ _ => pts_nil) (fun _ _ _ _ _ => (pe_tupleOf (by rfl) mt (pe_lc (own := [("_law_word", 12)]) (g := gName 12) (tt := tYes) (te := tTup (tCons (tVar 12) tNil)) rfl scRight.nd (pi_tup (pv 11)) (blkOk_by (N := nRight) (sc := scIn) (by decide +kernel)) (fun _ _ _ _ _ => (pg_name (i := 12) scRight.nd rfl (.inl rfl))) (fun _ _ _ _ _ => pts_nil) (fun _ _ _ _ _ => (pe_tup (pa_cons (pv 12) pa_nil)))))))
        (pss_cons (ps_if (PW.pt (pw_or (pt_cmpR op_isnot_bl (pe_call GS hr (by rfl) gS FS.kp bS .nil pass0 (pa_cons (pv 1) (pa_cons (pv 4) (pa_cons (pv 7) pa_nil)))) pe_bl (nomark _)) (pw_or1 (pt_cmpR op_isnot_bl (pe_call GS hr (by rfl) gS FS.kp bS .nil pass0 (pa_cons (pv 1) (pa_cons (pv 4) (pa_cons (pe_revL (pv 5)) pa_nil)))) pe_bl (nomark _))))) (pss_one (ps_ret pe_bl)) pss_nil)
        (pss_cons (ps_set (i := 8) scRight.nd rfl (.inl rfl) (pe_callB (call_reprD hgd (hu65 hr)) (by rfl) mre (by decide +kernel) (pa_cons (pv 5) pa_nil)))
        (pss_cons (ps_expr (pe_bm PySem.F.plainAttrs_list PySem.F.slot_list_append PySem.F.type_list_append mt_append (pv 5) (pa_cons pe_str pa_nil)))
        (pss_cons (ps_if (PW.pt (pw_or (pt_cmpR op_ne (pe_callB (call_reprD hgd (hu65 hr)) (by rfl) mre (by decide +kernel) (pa_cons (pe_callK0 GC hr (by rfl) gC FC.kp kC pass0 (pk_cons (pv 4) (pk_cons (pv 1) pk_nil))) pa_nil)) (pv 8) (nomark _)) (pw_or1 (pt_cmpR op_ne (pe_cmpR (op_eqD hr.units) (pv 5) (pe_lst (pa_cons pe_str pa_nil)) (nomark _)) (pe_cmpR (op_eqD hr.units) (pv 6) (pe_lst pa_nil) (nomark _)) (nomark _))))) (pss_one (ps_ret pe_bl)) pss_nil)
        (pss_one (ps_if (PW.pt (pw_and (pt_cmpR (op_neD hr.units) (pv 6) (pe_lst pa_nil) (nomark _)) (pw_and1 (pt_cmpR op_isnot_bl (pe_callK0 GS hr (by rfl) gS FS.kp kS pass0 (pk_cons (pe_slice sl_list (pv 7) (po_some pe_int) po_none) (pk_cons (pv 4) (pk_cons (pv 1) pk_nil)))) pe_bl (nomark _))))) (pss_one (ps_ret pe_bl)) pss_nil)))))))))))
        (pss_cons (ps_set (i := 9) scRight.nd rfl (.inl rfl) (pe_call GC hr (by rfl) gC FC.kp bC .nil pass0 (pa_cons (pv 1) (pa_cons (pe_tup (pa_cons pe_str pa_nil)) pa_nil))))
        (pss_one (ps_ret (pe_and (pe_cmpR (op_eqD hr.units) (pe_call GC hr (by rfl) gC FC.kp bC .nil pass0 (pa_cons (pv 1) (pa_cons (pe_ix ix_list (pv 3) pe_int (fun _ _ => rfl)) pa_nil))) (pe_lst pa_nil) (nomark _)) (pe_one (pe_call GR hr (by rfl) gR FR.kp bR .nil pass0 (pa_cons (pv 1) (pa_cons (pe_tup (pa_cons pe_str pa_nil)) (pa_cons (pv 9) pa_nil))))))))))))), ?_⟩
    -- the facets
    refine ⟨.ref t, rfl, .ref t, rfl, t, 4, 0, rfl, by decide, by decide, hT, by omega, fun r1 H1 x1 T1 h10 h11 => ⟨1, r1, rfl, rfl, by show 2 ≤ sizeLine; decide, fun l nl => ?_⟩⟩
    have nlt := T1.ne_none nl
    refine ⟨.ref t, rfl, t, 2, 1, rfl, by decide, by decide, T1.upd nlt, by omega, fun r2 H2 x2 T2 h20 h21 => ?_⟩
    obtain ⟨m, hm0, hm1, hat⟩ : ∃ m : Nat, 1 ≤ m ∧ m ≤ 4 ∧ atI [V.int (1 + r1), .int 4] r2 = some (.int (m : Int)) := by
      have : r2 = 0 ∨ r2 = 1 := by omega
      rcases this with rfl | rfl
      · refine ⟨(1 + r1).toNat, by omega, by omega, ?_⟩
        rw [Int.toNat_of_nonneg (by omega)]
        rfl
      · exact ⟨4, by decide, by decide, rfl⟩
    refine ⟨l, _, r2, .int (m : Int), rfl, rfl, SqL.of (x2 l _ nlt upd_same), hat, ?_⟩
    refine ⟨.ref t, rfl, t, 3, 2, rfl, by decide, by decide, T2, by omega, fun r3 H3 x3 T3 h30 h31 => ⟨2, r3, rfl, rfl, t, m, 3, 2 + r3, rfl, hm1, by omega, by omega, T3, by omega, fun fv H4 fs x4 T4 hfv hfl hfo hup => ?_⟩⟩
    have x04 : Ex t H H4 := ((x1.trans (Same.ex (same_upd nl))).trans (x2.trans x3)).trans x4
    have hnd : (fs.map (·.1)).Nodup := pairwise_nodup hup
    have hf1 : 1 ≤ fs.length := by omega
    have hf4 : fs.length ≤ 4 := by omega
    have hWk := COk.of hfo hf4
    have hWl : (fs.map (·.2)).length = fs.length := List.length_map _
    clear x1 x2 x3 x4 T1 T2 T3 hat hup
    -- one
    refine ⟨.ref t, rfl, fv, rfl, t, fv, 2, 103, fs, rfl, by decide, by decide, hfv, hfo, hf1, hf4, T4, by decide, fun wv H5 w0 x5 T5 hw0 ok0 dp0 => ?_⟩
    have hfv5 := hfv.keep (T4.keepT x5) (imm_dF fs)
    have x05 := x04.trans x5
    -- some
    refine ⟨wv, rfl, wv, rfl, by show 2 ≤ sizeLine; decide, fun p1 n1 => ⟨by show 3 ≤ sizeLine; decide, fun p2 n2 => ⟨wv, rfl, wv, rfl, by show 2 ≤ sizeLine; decide, fun p3 n3 => ⟨by show 3 ≤ sizeLine; decide, fun p4 n4 => ⟨wv, rfl, by show 3 ≤ sizeLine; decide, fun sl nsl => ?_⟩⟩⟩⟩⟩
    have q1 := same_upd (o := .tup [.str "not", wv]) n1
    have q2 := same_upd (o := .tup [.str "either", wv, .ref p1]) n2
    have q3 := same_upd (o := .tup [.str "not", wv]) n3
    have q4 := same_upd (o := .tup [.str "both", wv, .ref p3]) n4
    have q5 := same_upd (o := .lst [.ref p2, .ref p4, wv]) nsl
    have q35 := Same.trans q3 (Same.trans q4 q5)
    have q25 := Same.trans q2 q35
    have q15 := Same.trans q1 q25
    have nslt : sl ≠ t := T5.ne_none ((Same.trans q1 (Same.trans q2 (Same.trans q3 q4))).free nsl)
    have rw0 := hw0.same q15
    have rE : Rp _ (.ref p2) (dN (.either w0 (.nt w0))) := .tup (q35 _ _ upd_same) (.cons (.str _) (.cons rw0 (.cons (.tup (q25 _ _ upd_same) (.cons (.str _) (.cons rw0 .nil))) .nil)))
    have rB : Rp _ (.ref p4) (dN (.both w0 (.nt w0))) := .tup (q5 _ _ upd_same) (.cons (.str _) (.cons rw0 (.cons (.tup ((Same.trans q4 q5) _ _ upd_same) (.cons (.str _) (.cons rw0 .nil))) .nil)))
    have eS : upd (upd (upd (upd (upd H5 p1 (.tup [.str "not", wv])) p2 (.tup [.str "either", wv, .ref p1])) p3 (.tup [.str "not", wv])) p4 (.tup [.str "both", wv, .ref p3])) sl (.lst [.ref p2, .ref p4, wv]) sl = some (.lst [.ref p2, .ref p4, wv]) := upd_same
    have T6 := T5.same q15
    have hfv6 := hfv5.same q15
    have x06 := x05.trans (Same.ex q15)
    have rS : RpAll _ [.ref p2, .ref p4, wv] ([Wn.either w0 (.nt w0), .both w0 (.nt w0), w0].map dN) := .cons rE (.cons rB (.cons rw0 .nil))
    generalize upd (upd (upd (upd (upd H5 p1 (.tup [.str "not", wv])) p2 (.tup [.str "either", wv, .ref p1])) p3 (.tup [.str "not", wv])) p4 (.tup [.str "both", wv, .ref p3])) sl (.lst [.ref p2, .ref p4, wv]) = H6 at *
    clear q1 q2 q3 q4 q5 q35 q25 q15 rE rB
    have okS : ∀ w ∈ [Wn.either w0 (.nt w0), .both w0 (.nt w0), w0], WOk fs w ∧ dep w ≤ 4 := by
      intro w hw
      simp only [List.mem_cons, List.not_mem_nil, or_false] at hw
      rcases hw with rfl | rfl | rfl
      · refine ⟨⟨ok0, ok0⟩, ?_⟩
        show max (dep w0) (dep w0 + 1) + 1 ≤ 4
        omega
      · refine ⟨⟨ok0, ok0⟩, ?_⟩
        show max (dep w0) (dep w0 + 1) + 1 ≤ 4
        omega
      · exact ⟨ok0, by omega⟩
    have hb3 : bud 3 = 150 := rfl
    have hb2 : 103 + bud 2 = 173 := rfl
    rw [hb2] at T6
    -- two more
    refine ⟨.ref sl, rfl, 2, rfl, by decide, by decide, fun D nD => ?_⟩
    have nDt := T6.ne_none nD
    refine lc_it (walk_range (lo := 0) (n := 2)) (fun i G => ∃ (us : List V) (ws : List Wn), Ex t H6 G ∧ TapeAt G t (173 + 150 * i) ∧ G D = some (.lst us) ∧ RpAll G us (ws.map dN) ∧ ws.length = i ∧ ∀ w ∈ ws, WOk fs w ∧ dep w ≤ 4) ⟨[], [], Same.ex (same_upd nD), T6.upd nDt, upd_same, .nil, rfl, fun _ hw => by cases hw⟩ (fun _ _ _ _ => trivial) ?_ ?_
    · rintro i x G' G hi ⟨us, ws, xG, TG, dG, rG, lG, oG⟩ ⟨rfl, rfl⟩
      refine ⟨rfl, .ref t, rfl, fv, rfl, t, fv, 3, 173 + 150 * i, fs, rfl, by decide, by decide, hfv6.keep (T6.keepT xG) (imm_dF fs), hfo, hf1, hf4, TG, by omega, fun wv' G2 w' x2 T2 hw' ok' dp' => ?_⟩
      have d2 := x2 _ _ nDt dG
      refine ⟨us, d2, small1000 (by rw [rG.length, List.length_map]; omega), us ++ [wv'], ws ++ [w'], (xG.trans x2).upd_free nD, (T2.upd nDt).mono (by omega), upd_same, RpAll.add imm_dN d2 (rG.keep (TG.keepT x2) (immAll_map imm_dN ws)) hw', by rw [List.length_append, lG]; rfl, fun w hw => ?_⟩
      rcases List.mem_append.mp hw with z | z
      · exact oG w z
      · rw [List.mem_singleton.mp z]
        exact ⟨ok', by omega⟩
    rintro G7 ⟨us, ws, x7, T7, d7, r7, l7, o7⟩
    have e7 := x7 _ _ nslt eS
    have rS7 := rS.keep (T6.keepT x7) (immAll_map imm_dN _)
    have hul := r7.length
    rw [List.length_map] at hul
    refine ⟨sl, D, _, us, rfl, rfl, e7, d7, sz _ (by simp; omega), fun wl nwl => ?_⟩
    have nwlt := T7.ne_none nwl
    have sw := same_upd (o := .lst ([.ref p2, .ref p4, wv] ++ us)) nwl
    have rW8 : RpAll (upd G7 wl (.lst ([.ref p2, .ref p4, wv] ++ us))) ([.ref p2, .ref p4, wv] ++ us) (([Wn.either w0 (.nt w0), .both w0 (.nt w0), w0] ++ ws).map dN) := by
      rw [List.map_append]
      exact (rS7.same sw).append (r7.same sw)
    have eW8 : upd G7 wl (.lst ([.ref p2, .ref p4, wv] ++ us)) wl = some (.lst ([.ref p2, .ref p4, wv] ++ us)) := upd_same
    have okA : ∀ w ∈ [Wn.either w0 (.nt w0), .both w0 (.nt w0), w0] ++ ws, WOk fs w ∧ dep w ≤ 4 := fun w hw => by
      rcases List.mem_append.mp hw with z | z
      · exact okS w z
      · exact o7 w z
    have x08 := (x06.trans x7).trans (Same.ex sw)
    have T8 := T7.upd (o := .lst ([.ref p2, .ref p4, wv] ++ us)) nwlt
    have hfv8 := (hfv6.keep (T6.keepT x7) (imm_dF fs)).same sw
    have e8 := sw _ _ e7
    have rS8 := rS7.same sw
    have hwl := rW8.length
    rw [List.length_map] at hwl
    generalize hWs : [Wn.either w0 (.nt w0), .both w0 (.nt w0), w0] ++ ws = ws5 at *
    generalize hUs : [V.ref p2, .ref p4, wv] ++ us = wus at *
    generalize upd G7 wl (.lst wus) = H8 at *
    have hsome : RpAll H8 [.ref p2, .ref p4, wv] [dN (.either w0 (.nt w0)), dN (.both w0 (.nt w0)), dN w0] := rS8
    clear rS rS7 r7 x7
    have hw5 : ws5.length = 5 := by rw [← hWs, List.length_append, l7]; rfl
    refine ⟨wl, rfl, ⟨wus, SqL.of eW8⟩, ?_⟩
    refine for_it (walk_list (xs := wus)) (fun i σ G => ∃ (y4 y5 y6 y7 y8 : Option V), σ = [some (.ref t), some fv, some wv, some (.ref sl), y4, y5, y6, y7, y8, none, none, none, none] ∧ Ex t H8 G ∧ TapeAt G t (473 + 256 * i))
      ⟨_, _, _, _, _, rfl, Ex.refl t H8, T8⟩ ?_ ?_ ?_
    · rintro i σ G _ ⟨y4, y5, y6, y7, y8, rfl, xG, TG⟩
      exact SqL.of (xG _ _ nwlt eW8)
    · rintro i x σ G0 G hi ⟨y4, y5, y6, y7, y8, rfl, xG, TG⟩ ⟨rfl, fx⟩
      have hi5 : i < ws5.length := by omega
      obtain ⟨dd, hdd, hW⟩ := rW8.get fx
      rw [List.getElem?_map, List.getElem?_eq_getElem hi5] at hdd
      cases hdd
      obtain ⟨okw, dpw⟩ := okA _ (List.getElem_mem hi5)
      have kG := T8.keepT xG
      have hF := hfv8.keep kG (imm_dF fs)
      have hW := hW.keep kG (imm_dN _)
      generalize ws5[i] = wn at *
      have hgood : Good fs wn (casesM fs wn) := cases_ok hfo hnd wn okw
      -- told
      refine ⟨fv, rfl, x, rfl, fv, x, fs, wn, rfl, hF, hW, hfo, hnd, hf4, okw, dpw, fun p H1 s1 np hp => ?_⟩
      obtain ⟨cs, hcs⟩ : ∃ cs, cs = casesM fs wn := ⟨_, rfl⟩
      rw [← hcs] at hgood hp
      have npt := TG.ne_none np
      have hcf := hgood.1.few hWk
      have hff := hgood.1.flat_few hWk
      refine ⟨fv, rfl, x, rfl, .ref p, rfl, fv, x, p, fs, wn, cs, rfl, hF.same s1, hW.same s1, hp, hfo, hf1, hf4, okw, dpw, hgood, fun H2 s2 => ⟨_, rfl, ?_⟩⟩
      have s12 := Same.trans s1 s2
      refine ⟨fv, rfl, x, rfl, .ref p, rfl, fv, x, p, fs, wn, cs, true, rfl, hF.same s12, hW.same s12, hp.same s2, hfo, hf1, hf4, okw, dpw, hgood.1.1, hgood.1.le, by omega, .inl ⟨rfl, hgood⟩, fun H3 s3 => ⟨true, true, rfl, rfl, _, rfl, ?_⟩⟩
      have s13 := Same.trans s12 s3
      -- due
      refine ⟨fv, rfl, fv, fs, rfl, hF.same s13, hfo, hf4, fun ev H4 s4 nev hev => ?_⟩
      obtain ⟨es, he0, he1⟩ := hev.lst_inv
      have hle := he1.length
      rw [List.length_map] at hle
      have s14 := Same.trans s13 s4
      have hall := all_few hWk
      refine ⟨ev, rfl, ⟨es, SqL.of he0⟩, fun D1 nD1 => ?_⟩
      refine gen_lc (walk_list (xs := es)) (fun j => holdsM fs ((settingsM (fs.map (·.2))).getD j []) wn) (fun j => dW ((settingsM (fs.map (·.2))).getD j [])) (fun _ => imm_dW _) nD1 (by omega) (fun H7 s7 => SqL.of (s7 _ _ he0)) (fun j y H7 H8' Qy Qn hj s7 yy hy hn => ?_) (fun H5' ts s5 d5 r5 => ?_)
      · obtain ⟨rfl, fy⟩ := yy
        obtain ⟨dd, hdd, hxo⟩ := he1.get fy
        have hje : j < (settingsM (fs.map (·.2))).length := by omega
        rw [List.getElem?_map, List.getElem?_eq_getElem hje] at hdd
        cases hdd
        simp only [getD_lt [] hje] at hy hn
        have hsl := settings_len (List.getElem_mem hje)
        rw [hWl] at hsl
        have hxo7 := hxo.same s7
        refine ⟨rfl, fv, rfl, x, rfl, y, rfl, fv, x, y, fs, wn, _, rfl, hF.same (Same.trans s14 s7), hW.same (Same.trans s14 s7), hxo7, okw, dpw, hsl, by omega, fun H9 s9 => ⟨_, rfl, ?_⟩⟩
        dsimp only
        by_cases hh : holdsM fs (settingsM (fs.map (·.2)))[j] wn = true
        · rw [if_pos hh]
          exact ⟨y, rfl, hy hh _ _ s9 (hxo7.same s9)⟩
        · rw [if_neg hh]
          exact hn (by simpa using hh) _ s9
      rw [hle, range_pick dW (fun s => holdsM fs s wn) []] at r5
      have r5 : RpAll H5' ts ((dueM fs wn).map dW) := r5
      have hdl : (dueM fs wn).length ≤ 256 := Nat.le_trans (List.length_filter_le _ _) hall
      have htl := r5.length
      rw [List.length_map] at htl
      have s15 := Same.trans s14 s5
      have T5' := TG.same s15
      have nD1t : D1 ≠ t := (TG.same s14).ne_none nD1
      -- alone
      refine ⟨.ref t, rfl, .ref D1, rfl, .ref D1, rfl, D1, _, rfl, .inl (SqL.of d5), List Str, dW, dueM fs wn, t, D1, ts, ts.length, 473 + 256 * i, rfl, .inr d5, r5, imm_dW, by omega, by omega, T5', by omega, fun pl H6' us6 ys rest x6 T6' npl epl rpl lys hperm => ?_⟩
      have hrest : rest = [] := by
        have := hperm.length_eq
        rw [List.length_append] at this
        exact List.eq_nil_of_length_eq_zero (by omega)
      subst hrest
      rw [List.append_nil] at hperm
      have hul6 := rpl.length
      rw [List.length_map] at hul6
      refine ⟨pl, rfl, ⟨us6, SqL.of epl⟩, fun D2 nD2 => ?_⟩
      refine gen_lc (walk_list (xs := us6)) (fun _ => true) (fun j => dC (oneM (ys.getD j []))) (fun _ => imm_dC _) nD2 (by omega) (fun H7 s7 => SqL.of (s7 _ _ epl)) (fun j y H7 H8' Qy Qn hj s7 yy hy hn => ?_) (fun H7' ts7 s7 d7' r7' => ?_)
      · obtain ⟨rfl, fy⟩ := yy
        obtain ⟨dd, hdd, hyo⟩ := rpl.get fy
        have hjy : j < ys.length := by omega
        rw [List.getElem?_map, List.getElem?_eq_getElem hjy] at hdd
        cases hdd
        simp only [getD_lt [] hjy] at hy
        obtain ⟨g, rfl, hg⟩ := (hyo.same s7).dW_inv
        have hyl : ys[j].length ≤ 4 := by
          have := (due_in _ (hperm.mem_iff.mp (List.getElem_mem hjy))).len
          rw [this, hWl]
          exact hf4
        refine ⟨rfl, .ref g, rfl, g, rfl, ⟨_, SqT.of hg⟩, fun D5 nD5 => ?_⟩
        refine gen_lc (walk_tup (xs := ys[j].map V.str)) (fun _ => true) (fun m => dW [ys[j].getD m Str.empty]) (fun _ => imm_dW _) nD5 (by rw [List.length_map]; omega) (fun H9 s9 => SqT.of (s9 _ _ hg)) (fun m w' H9 H10 Qy2 Qn2 hm s9 yy2 hy2 _ => ?_) (fun H9 ts9 s9 d9 r9 => ?_)
        · obtain ⟨rfl, fw⟩ := yy2
          rw [List.length_map] at hm
          rw [List.getElem?_map, List.getElem?_eq_getElem hm] at fw
          cases fw
          simp only [getD_lt Str.empty hm] at hy2
          exact ⟨rfl, _, rfl, by show 1 ≤ sizeLine; decide, fun z1 nz1 => hy2 trivial _ _ (same_upd nz1) (.tup upd_same (.cons (.str _) .nil))⟩
        · rw [List.length_map, range_all (fun w => dW [w]) Str.empty] at r9
          have e9 : ys[j].map (fun w => dW [w]) = (oneM ys[j]).map dW := by
            unfold oneM
            rw [List.map_map]
            rfl
          rw [e9] at r9
          exact .inl ⟨D5, ts9, rfl, SqL.of d9, fun z1 nz1 => hy trivial _ _ (Same.trans s9 (same_upd nz1)) (.tup upd_same (r9.same (same_upd nz1)))⟩
      have e7' : ys.map (fun s => dC (oneM s)) = (ys.map oneM).map dC := by
        rw [List.map_map]
        rfl
      rw [hul6, range_all (fun s => dC (oneM s)) [], e7'] at r7'
      have hones : Good fs wn (ys.map oneM) := Good.ones hfo hperm
      have x57 : Ex t H5' H7' := x6.trans (Same.ex s7)
      have T7' := T6'.same s7
      have k57 := T5'.keepT x57
      have hF7 := (hF.same s15).keep k57 (imm_dF fs)
      have hW7 := (hW.same s15).keep k57 (imm_dN _)
      obtain ⟨us1, hp0, hp1⟩ := hp.lst_inv
      have s25 := Same.trans s2 (Same.trans s3 (Same.trans s4 s5))
      have ep7 := x57 _ _ npt (s25 _ _ hp0)
      have rp7 := (hp1.same s25).keep k57 (immAll_map imm_dC _)
      have d57 := x57 _ _ nD1t d5
      have r57 := r5.keep k57 (immAll_map imm_dW _)
      have hul1 := hp1.length
      rw [List.length_map] at hul1
      have nD2t : D2 ≠ t := T6'.ne_none nD2
      have hal : Rp H7' (.ref D2) (.list ((ys.map oneM).map dC)) := .lst d7' r7'
      have hof := hones.1.flat_few hWk
      refine ⟨fv, rfl, x, rfl, .ref D2, rfl, fv, x, D2, fs, wn, ys.map oneM, true, rfl, hF7, hW7, hal, hfo, hf1, hf4, okw, dpw, hones.1.1, hones.1.le, by omega, .inl ⟨rfl, hones⟩, fun H8' s8 => ⟨true, true, rfl, rfl, _, rfl, ?_⟩⟩
      refine ⟨fv, rfl, x, rfl, .ref p, rfl, p, us1, rfl, SqL.of (s8 _ _ ep7), fun r nr => ?_⟩
      have sr := same_upd (o := .lst us1.reverse) nr
      have s8r := Same.trans s8 sr
      have hrev : RpAll H7' us1.reverse (cs.reverse.map dC) := by
        rw [List.map_reverse]
        exact rp7.rev
      have hrf := hgood.reverse.1.flat_few hWk
      refine ⟨fv, x, r, fs, wn, cs.reverse, true, rfl, hF7.same s8r, hW7.same s8r, .lst upd_same (hrev.same s8r), hfo, hf1, hf4, okw, dpw, hgood.reverse.1.1, hgood.reverse.1.le, by omega, .inl ⟨rfl, hgood.reverse⟩, fun H9 s9 => ⟨true, true, rfl, rfl, _, rfl, ?_⟩⟩
      have s79 := Same.trans s8r s9
      have ep9 := s79 _ _ ep7
      have hcok : ∀ c ∈ cs, COk c := fun c hc => (hgood.1.1 c hc).ok hWk
      obtain ⟨k1, k2, k3, k4⟩ := repr_ok hcok hcf
      -- kept
      refine ⟨.ref p, rfl, p, .list (cs.map dC), rfl, Rp.dp (.lst ep9 (rp7.same s79)), k1, k2, k3, k4, ?_⟩
      refine ⟨.ref p, rfl, .inl ⟨rfl, _, SqL.of ep9⟩, p, us1, .str "more", rfl, rfl, ep9, small1000 (by omega), ?_⟩
      have kA : KeepT H9 (upd H9 p (.lst (us1 ++ [.str "more"]))) := keepT_lst ep9
      have hFa := (hF7.same s79).keep kA (imm_dF fs)
      have hWa := (hW7.same s79).keep kA (imm_dN _)
      have ea : upd H9 p (.lst (us1 ++ [.str "more"])) p = some (.lst (us1 ++ [.str "more"])) := upd_same
      have ra : RpAll (upd H9 p (.lst (us1 ++ [.str "more"]))) (us1 ++ [.str "more"]) (cs.map dC ++ [.str "more"]) := ((rp7.same s79).keep kA (immAll_map imm_dC _)).append (.cons (.str _) .nil)
      have nD1p : D1 ≠ p := fun e => by
        subst e
        have := (Same.trans (Same.trans s2 s3) s4) _ _ hp0
        rw [nD1] at this
        cases this
      have nD2p : D2 ≠ p := fun e => by
        subst e
        have := x6 _ _ npt (s25 _ _ hp0)
        rw [nD2] at this
        cases this
      have dA : upd H9 p (.lst (us1 ++ [.str "more"])) D1 = some (.lst ts) := by
        rw [upd_ne nD1p]
        exact s79 _ _ d57
      have rA := (r57.same s79).keep kA (immAll_map imm_dW _)
      have aA : upd H9 p (.lst (us1 ++ [.str "more"])) D2 = some (.lst ts7) := by
        rw [upd_ne nD2p]
        exact s79 _ _ d7'
      have raA := (r7'.same s79).keep kA (immAll_map imm_dC _)
      have xA : Ex t G (upd H9 p (.lst (us1 ++ [.str "more"]))) := (((Same.ex s15).trans x57).trans (Same.ex s79)).upd_free np
      have TA : TapeAt (upd H9 p (.lst (us1 ++ [.str "more"]))) t (473 + 256 * (i + 1)) := (((T7'.same s79).upd npt).mono (by omega))
      generalize upd H9 p (.lst (us1 ++ [.str "more"])) = HA at *
      refine ⟨x, rfl, fv, rfl, fv, x, fs, wn, rfl, hFa, hWa, hfo, hnd, hf4, okw, dpw, fun p' HB sB np' hp' => ?_⟩
      rw [show casesM fs wn = cs from hcs.symm] at hp'
      refine ⟨p', .list (cs.map dC), rfl, hp'.dp, k1, k2, k3, k4, _, rfl, rfl, _, rfl, iteNS rfl ?_⟩
      refine ⟨.ref p, rfl, by show 1 ≤ sizeLine; decide, fun z1 nz1 => ?_⟩
      have s1z := same_upd (o := .lst [.str "more"]) nz1
      have sB1 := Same.trans sB s1z
      refine ⟨.list (cs.map dC ++ [.str "more"]), .list [.str "more"], Rp.dp (.lst (sB1 _ _ ea) (ra.same sB1)), Rp.dp (.lst upd_same (.cons (.str _) .nil)), more_shaped hcok, by decide +kernel, .ref D1, rfl, Nat.zero_le _, fun z2 nz2 => ?_⟩
      have s2z := same_upd (o := .lst []) nz2
      have sB2 := Same.trans sB1 s2z
      refine ⟨.list ((dueM fs wn).map dW), .list [], Rp.dp (.lst (sB2 _ _ dA) (rA.same sB2)), Rp.dp (.lst upd_same .nil), shaped_ss hWk due_in, by decide, rfl, _, rfl, ?_⟩
      have hee : PyData.eqv (.list (cs.map dC ++ [.str "more"])) (.list [.str "more"]) = PyData.eqv (.list ((dueM fs wn).map dW)) (.list []) := by
        rw [more_eqv, eqv_nil_l, hgood.empty, List.isEmpty_map]
      rw [hee]
      refine iteNS rfl ?_
      refine ⟨.ref D1, rfl, Nat.zero_le _, fun z3 nz3 => ?_⟩
      have s3z := same_upd (o := .lst []) nz3
      have sB3 := Same.trans sB2 s3z
      refine ⟨.list ((dueM fs wn).map dW), .list [], Rp.dp (.lst (sB3 _ _ dA) (rA.same sB3)), Rp.dp (.lst upd_same .nil), shaped_ss hWk due_in, by decide, _, rfl, ?_⟩
      rw [eqv_nil_l, List.isEmpty_map]
      cases hdue : (dueM fs wn).isEmpty with
      | true => exact ⟨_, _, _, _, _, rfl, (xG.trans xA).trans (Same.ex sB3), TA.same sB3⟩
      | false =>
        have hdne : 1 ≤ (dueM fs wn).length := by
          cases e : dueM fs wn with
          | nil => rw [e] at hdue; cases hdue
          | cons _ _ => exact Nat.succ_le_succ (Nat.zero_le _)
        have hl7 := r7'.length
        rw [List.length_map, List.length_map] at hl7
        refine ⟨.ref D2, rfl, 1, rfl, ?_⟩
        dsimp only [tNoPart]
        refine ⟨D2, ts7, rfl, SqL.of (sB3 _ _ aA), fun r2 nr2 => ?_⟩
        have ecut : cutV ts7 (some (1 : Int)) none = ts7.drop 1 := cut_drop ts7 1 (by omega)
        rw [ecut]
        have s4z := same_upd (o := .lst (ts7.drop 1)) nr2
        have sB4 := Same.trans sB3 s4z
        have hdrop : RpAll HA (ts7.drop 1) (((ys.map oneM).drop 1).map dC) := by
          rw [List.map_drop]
          exact raA.drop 1
        have hfd : ((ys.map oneM).drop 1).flatMap settingsM = ys.drop 1 := by
          rw [← List.map_drop]
          exact flat_one _
        have hvd : ∀ c ∈ (ys.map oneM).drop 1, VC (fs.map (·.2)) c := fun c hc => hones.1.1 c (List.mem_of_mem_drop hc)
        have hol := hones.1.le
        rw [List.length_map] at hol
        refine ⟨x, rfl, fv, rfl, fv, x, r2, fs, wn, (ys.map oneM).drop 1, false, rfl, hFa.same sB4, hWa.same sB4, .lst upd_same (hdrop.same sB4), hfo, hf1, hf4, okw, dpw, hvd, ?_, ?_, .inr ⟨rfl, ?_⟩, fun HE sE => ⟨false, false, rfl, rfl, _, rfl, ?_⟩⟩
        · rw [List.length_drop, List.length_map]
          omega
        · rw [hfd, List.length_drop]
          omega
        · rw [hfd, List.length_drop]
          omega
        · exact ⟨_, _, _, _, _, rfl, (xG.trans xA).trans (Same.ex (Same.trans sB4 sE)), TA.same (Same.trans sB4 sE)⟩
    · rintro σ G ⟨y4, y5, y6, y7, y8, rfl, xG, TG⟩
      have kG := T8.keepT xG
      have hF := hfv8.keep kG (imm_dF fs)
      have eG := xG _ _ nslt e8
      have rG := hsome.keep kG (immAll_map imm_dN [Wn.either w0 (.nt w0), .both w0 (.nt w0), w0])
      obtain ⟨hr1, hr2, hr3, e3, hh1, hh2, hh3⟩ := rG.three
      cases e3
      refine ⟨fv, rfl, by show 1 ≤ sizeLine; decide, fun z1 nz1 => ?_⟩
      have s1z := same_upd (o := .tup [.str "always"]) nz1
      refine ⟨fv, .ref z1, fs, .always, rfl, hF.same s1z, .tup upd_same (.cons (.str _) .nil), hfo, hnd, hf4, trivial, by decide, fun p H1' s1 np hp => ?_⟩
      have s01 := Same.trans s1z s1
      have okB : WOk fs (.both w0 (.nt w0)) := ⟨ok0, ok0⟩
      have dpB : dep (.both w0 (.nt w0)) ≤ 4 := by
        show max (dep w0) (dep w0 + 1) + 1 ≤ 4
        omega
      refine ⟨fv, rfl, .ref sl, rfl, sl, _, 1, .ref p4, rfl, rfl, SqL.of (s01 _ _ eG), rfl, fv, .ref p4, fs, .both w0 (.nt w0), rfl, hF.same s01, hh2.same s01, hfo, hnd, hf4, okB, dpB, fun p' H2' s2 np' hp' => ?_⟩
      have hgB : Good fs (.both w0 (.nt w0)) (casesM fs (.both w0 (.nt w0))) := cases_ok hfo hnd _ okB
      have hdB : dueM fs (.both w0 (.nt w0)) = [] := by
        unfold dueM
        rw [List.filter_eq_nil_iff]
        intro s _
        show ¬ (holdsM fs s w0 && !holdsM fs s w0) = true
        cases holdsM fs s w0 <;> decide
      have hcB : casesM fs (.both w0 (.nt w0)) = [] := by
        have := hgB.empty
        rw [hdB] at this
        exact List.isEmpty_iff.mp this
      rw [hcB] at hp'
      refine ⟨Nat.zero_le _, fun z2 nz2 => ?_⟩
      have s2z := same_upd (o := .lst []) nz2
      refine ⟨.list [], .list [], (hp'.same s2z).dp, Rp.dp (.lst upd_same .nil), by decide, by decide, _, rfl, ?_⟩
      have s02 := Same.trans s01 (Same.trans s2 s2z)
      refine ⟨fv, rfl, by show 1 ≤ sizeLine; decide, fun z3 nz3 => ?_⟩
      have s3z := same_upd (o := .tup [.str "always"]) nz3
      have s03 := Same.trans s02 s3z
      refine ⟨.ref p, rfl, fv, .ref z3, p, fs, .always, casesM fs .always, rfl, hF.same s03, .tup upd_same (.cons (.str _) .nil), hp.same (Same.trans (Same.trans s2 s2z) s3z), hfo, hf1, hf4, trivial, by decide, cases_ok hfo hnd .always trivial, fun H4' s4 => ?_⟩
      exact q _ ((x08.trans xG).trans (Same.ex (Same.trans s03 s4)))

end
end Sg

namespace Sg
open PySem PySem.Spec PyProof.Rows L2
abbrev sLaw : Stmt := topS 34
abbrev nLaw : List Str := ["_law_script", "_law_cells", "_law_k"]
theorem scLaw : FnScope nLaw ["_law_script"] (defScope sLaw) := ⟨rfl, rfl, rfl, by decide +kernel, rfl, by decide +kernel, by decide +kernel⟩
section
variable {P : Program} {w : World} {K : PySem.W.Frag} {mg : Str → Option Value} {base : Heap}
def spLaw (K : PySem.W.Frag) : Sp := fun vs H Q _ => ∃ (a : Addr) (ns : List Int), vs = [.ref a] ∧ SqL K H a (ns.map V.int) ∧ ns.length ≤ 63 ∧ ∀ H', Q (.bl true) H'
theorem ok_law {f fO fT fR : Addr} {fd fdO fdT fdR : FuncData} (F : Fun K "law" "law" sLaw f fd)
    (FO : Fun K "_law_folded" "_law_folded" sFolded fO fdO) (bO : Binds K fdO ["_law_script", "_law_many"] []) (gO : mg "_law_folded" = some (.ref fO)) (GO : FnOk P w K mg base CX0 10 fO fdO ["_law_script", "_law_many"] (spFolded K))
    (FT : Fun K "_law_tape" "_law_tape" sTape fT fdT) (bT : Binds K fdT ["_law_script", "_law_k"] []) (gT : mg "_law_tape" = some (.ref fT)) (GT : FnOk P w K mg base CX0 10 fT fdT ["_law_script", "_law_k"] (spTape K))
    (FR : Fun K "_law_right" "_law_right" sRight fR fdR) (bR : Binds K fdR ["_law_tape_here"] []) (gR : mg "_law_right" = some (.ref fR)) (GR : FnG P w K mg base 10 fR fdR ["_law_tape_here"] spRight)
    (ml : mg "len" = none) (mr : mg "range" = none) (ma : mg "all" = none) (mm : mg "max" = none) : FnG P w K mg base 11 f fd ["_law_script"] (spLaw K) := by
  refine okG F scLaw (fun vs H Q E h => ?_) (fun cdv A outer s H vs Q E hgd hr h => ?_)
  · obtain ⟨a, ns, rfl, _⟩ := h
    rfl
  · obtain ⟨a, ns, rfl, hS, hn, q⟩ := h
    refine ⟨_, pss_cons (ps_set (i := 1) scLaw.nd rfl (.inr rfl) (pe_call GO hr (by rfl) gO FO.kp bO .nil pass0 (pa_cons (pv 0) (pa_cons pe_int pa_nil))))
      (pss_one (ps_ret (pe_callB (cr_all rfl) (by rfl) ma (by decide +kernel) (pa_cons (pe_lc (own := [("_law_k", 2)]) (g := gName 2) (tt := tYes) (te := tCall spRight [] E0 (tCons (tCall (spTape K) [] E0 (tCons (tVar 1) (tCons (tVar 2) tNil))) tNil)) rfl scLaw.nd
        (pi_range1 rfl mr (pa_cons (pe_callB (call_max2 rfl) (by rfl) mm (by decide +kernel) (pa_cons pe_int (pa_cons (pe_callB call_len_seq (by rfl) ml PySem.boot_len (pa_cons (pv 1) pa_nil)) pa_nil))) pa_nil)) (blkOk_by (N := nLaw) (sc := defScope sLaw) (by decide +kernel))
        (fun _ _ _ _ _ => pg_name (i := 2) scLaw.nd rfl (.inl rfl)) (fun _ _ _ _ _ => pts_nil) (fun _ _ _ _ _ => pe_callG GR hgd hr (by rfl) gR FR.kp bR (pa_cons (pe_call GT hr (by rfl) gT FT.kp bT .nil pass0 (pa_cons (pv 1) (pa_cons (pv 2) pa_nil))) pa_nil))) pa_nil)))), ?_⟩
    refine ⟨.ref a, rfl, a, 3, ns, rfl, hS, by decide, by decide, hn, fun c H1 ms s1 nc ec lc => ?_⟩
    have hlm : (ms.map V.int).length ≤ 4 := by
      rw [List.length_map]
      omega
    refine ⟨.ref c, rfl, c, _, rfl, .inl (SqL.of ec), 1, _, rfl, _, rfl, ?_, ?_, fun D nD => ?_⟩
    · split <;> omega
    · split <;> omega
    generalize hk : (if ((ms.map V.int).length : Int) > 1 then ((ms.map V.int).length : Int) else 1) = kk
    have hkk : kk ≤ 4 := by
      rw [← hk]
      split <;> omega
    refine lc_it (walk_range (lo := 0) (n := kk.toNat)) (fun i H3 => Same H1 H3 ∧ H3 D = some (.lst ((List.replicate i true).map V.bl))) ⟨same_upd nD, upd_same⟩ (fun _ _ _ _ => trivial) ?_ ?_
    · rintro i x H4 H3 hi ⟨s3, d3⟩ ⟨rfl, rfl⟩
      have e0 : (0 : Int) + (i : Nat) = (i : Nat) := Int.zero_add _
      refine ⟨rfl, .ref c, rfl, .int (0 + (i : Nat)), rfl, c, i, ms, by rw [e0]; rfl, SqL.of (s3 _ _ ec), by omega, fun t H5 s5 nt T5 => ?_⟩
      refine ⟨t, rfl, T5, fun H6 x6 => ?_⟩
      have s36 : Same H3 H6 := fun b o e => x6 b o (fun z => by subst z; rw [nt] at e; cases e) (s5 b o e)
      have d6 := s36 _ _ d3
      refine ⟨_, d6, ?_, fun b o e => ?_, ?_⟩
      · rw [List.length_map, List.length_replicate]
        exact small1000 (by omega)
      · rw [upd_ne (fun z => by subst z; rw [nD] at e; cases e)]
        exact s36 _ _ (s3 _ _ e)
      · rw [upd_same, List.replicate_succ', List.map_append]
        rfl
    · rintro H3 ⟨s3, d3⟩
      refine ⟨D, _, rfl, SqL.of d3, ?_⟩
      rw [all_true]
      exact q _
end
theorem all_mk {l : PySem.W.OpenLaw} {w : World} {K : PySem.W.Frag} {h : Heap} {mg : Str → Option Value} {fa f1 f2 f3 f4 f5 f6 f7 f8 f9 f10 f11 f12 f13 f14 f15 f16 f17 f18 f19 f20 f21 f22 f23 f24 f25 f26 f27 f28 f29 : Addr} (X : K.In h) (G : h.Ns mainGlobals mg) (hfa : mg "law" = some (.ref fa))
    {od1 an1 od2 an2 od3 an3 od4 an4 od5 an5 od6 an6 od7 an7 od8 an8 od9 an9 od10 an10 od11 an11 od12 an12 od13 an13 od14 an14 od15 an15 od16 an16 od17 an17 od18 an18 od19 an19 od20 an20 od21 an21 od22 an22 od23 an23 od24 an24 od25 an25 od26 an26 od27 an27 od28 an28 od29 an29 : Option Addr} {sl1 sl2 sl3 sl4 sl5 sl6 sl7 sl8 sl9 sl10 sl11 sl12 sl13 sl14 sl15 sl16 sl17 sl18 sl19 sl20 sl21 sl22 sl23 sl24 sl25 sl26 sl27 sl28 sl29 : Array (Option Value)} {oc1 kV1 dc1 pm1 cd1 ct1 oc2 kV2 dc2 pm2 cd2 ct2 oc3 kV3 dc3 pm3 cd3 ct3 oc4 kV4 dc4 pm4 cd4 ct4 oc5 kV5 dc5 pm5 cd5 ct5 oc6 kV6 dc6 pm6 cd6 ct6 oc7 kV7 dc7 pm7 cd7 ct7 oc8 kV8 dc8 pm8 cd8 ct8 oc9 kV9 dc9 pm9 cd9 ct9 oc10 kV10 dc10 pm10 cd10 ct10 oc11 kV11 dc11 pm11 cd11 ct11 oc12 kV12 dc12 pm12 cd12 ct12 oc13 kV13 dc13 pm13 cd13 ct13 oc14 kV14 dc14 pm14 cd14 ct14 oc15 kV15 dc15 pm15 cd15 ct15 oc16 kV16 dc16 pm16 cd16 ct16 oc17 kV17 dc17 pm17 cd17 ct17 oc18 kV18 dc18 pm18 cd18 ct18 oc19 kV19 dc19 pm19 cd19 ct19 oc20 kV20 dc20 pm20 cd20 ct20 oc21 kV21 dc21 pm21 cd21 ct21 oc22 kV22 dc22 pm22 cd22 ct22 oc23 kV23 dc23 pm23 cd23 ct23 oc24 kV24 dc24 pm24 cd24 ct24 oc25 kV25 dc25 pm25 cd25 ct25 oc26 kV26 dc26 pm26 cd26 ct26 oc27 kV27 dc27 pm27 cd27 ct27 oc28 kV28 dc28 pm28 cd28 ct28 oc29 kV29 dc29 pm29 cd29 ct29 : Value}
    (a1 : PySem.W.nsIn K mainGlobals "rises" = some (some (.ref f1))) (l1 : K.lookup f1 = some ⟨oc1, od1, .func (PySem.W.fnOf "rises" "rises" (defArgs sRises) (defBody sRises) (defScope sRises) .none kV1 dc1 pm1 an1 cd1 ct1), sl1⟩) (c1 : PySem.W.codeIn K cd1 "rises" = true) (k1 : PySem.W.keepIn K (.ref f1) = true)
    (a2 : PySem.W.nsIn K mainGlobals "are_some_of" = some (some (.ref f2))) (l2 : K.lookup f2 = some ⟨oc2, od2, .func (PySem.W.fnOf "are_some_of" "are_some_of" (defArgs sSome) (defBody sSome) (defScope sSome) .none kV2 dc2 pm2 an2 cd2 ct2), sl2⟩) (c2 : PySem.W.codeIn K cd2 "are_some_of" = true) (k2 : PySem.W.keepIn K (.ref f2) = true)
    (a3 : PySem.W.nsIn K mainGlobals "is_case" = some (some (.ref f3))) (l3 : K.lookup f3 = some ⟨oc3, od3, .func (PySem.W.fnOf "is_case" "is_case" (defArgs sIsCase) (defBody sIsCase) (defScope sIsCase) .none kV3 dc3 pm3 an3 cd3 ct3), sl3⟩) (c3 : PySem.W.codeIn K cd3 "is_case" = true) (k3 : PySem.W.keepIn K (.ref f3) = true)
    (a4 : PySem.W.nsIn K mainGlobals "settings_in" = some (some (.ref f4))) (l4 : K.lookup f4 = some ⟨oc4, od4, .func (PySem.W.fnOf "settings_in" "settings_in" (defArgs sSettingsIn) (defBody sSettingsIn) (defScope sSettingsIn) .none kV4 dc4 pm4 an4 cd4 ct4), sl4⟩) (c4 : PySem.W.codeIn K cd4 "settings_in" = true) (k4 : PySem.W.keepIn K (.ref f4) = true)
    (a5 : PySem.W.nsIn K mainGlobals "whole_case" = some (some (.ref f5))) (l5 : K.lookup f5 = some ⟨oc5, od5, .func (PySem.W.fnOf "whole_case" "whole_case" (defArgs sWhole) (defBody sWhole) (defScope sWhole) .none kV5 dc5 pm5 an5 cd5 ct5), sl5⟩) (c5 : PySem.W.codeIn K cd5 "whole_case" = true) (k5 : PySem.W.keepIn K (.ref f5) = true)
    (a6 : PySem.W.nsIn K mainGlobals "common" = some (some (.ref f6))) (l6 : K.lookup f6 = some ⟨oc6, od6, .func (PySem.W.fnOf "common" "common" (defArgs sCommon) (defBody sCommon) (defScope sCommon) .none kV6 dc6 pm6 an6 cd6 ct6), sl6⟩) (c6 : PySem.W.codeIn K cd6 "common" = true) (k6 : PySem.W.keepIn K (.ref f6) = true)
    (a7 : PySem.W.nsIn K mainGlobals "without" = some (some (.ref f7))) (l7 : K.lookup f7 = some ⟨oc7, od7, .func (PySem.W.fnOf "without" "without" (defArgs sWithout) (defBody sWithout) (defScope sWithout) .none kV7 dc7 pm7 an7 cd7 ct7), sl7⟩) (c7 : PySem.W.codeIn K cd7 "without" = true) (k7 : PySem.W.keepIn K (.ref f7) = true)
    (a8 : PySem.W.nsIn K mainGlobals "words_in_both" = some (some (.ref f8))) (l8 : K.lookup f8 = some ⟨oc8, od8, .func (PySem.W.fnOf "words_in_both" "words_in_both" (defArgs sBoth) (defBody sBoth) (defScope sBoth) .none kV8 dc8 pm8 an8 cd8 ct8), sl8⟩) (c8 : PySem.W.codeIn K cd8 "words_in_both" = true) (k8 : PySem.W.keepIn K (.ref f8) = true)
    (a9 : PySem.W.nsIn K mainGlobals "place_of" = some (some (.ref f9))) (l9 : K.lookup f9 = some ⟨oc9, od9, .func (PySem.W.fnOf "place_of" "place_of" (defArgs sPlace) (defBody sPlace) (defScope sPlace) .none kV9 dc9 pm9 an9 cd9 ct9), sl9⟩) (c9 : PySem.W.codeIn K cd9 "place_of" = true) (k9 : PySem.W.keepIn K (.ref f9) = true)
    (a10 : PySem.W.nsIn K mainGlobals "holds" = some (some (.ref f10))) (l10 : K.lookup f10 = some ⟨oc10, od10, .func (PySem.W.fnOf "holds" "holds" (defArgs sHolds) (defBody sHolds) (defScope sHolds) .none kV10 dc10 pm10 an10 cd10 ct10), sl10⟩) (c10 : PySem.W.codeIn K cd10 "holds" = true) (k10 : PySem.W.keepIn K (.ref f10) = true)
    (a11 : PySem.W.nsIn K mainGlobals "cases_of" = some (some (.ref f11))) (l11 : K.lookup f11 = some ⟨oc11, od11, .func (PySem.W.fnOf "cases_of" "cases_of" (defArgs sCases) (defBody sCases) (defScope sCases) .none kV11 dc11 pm11 an11 cd11 ct11), sl11⟩) (c11 : PySem.W.codeIn K cd11 "cases_of" = true) (k11 : PySem.W.keepIn K (.ref f11) = true)
    (a12 : PySem.W.nsIn K mainGlobals "cases_without" = some (some (.ref f12))) (l12 : K.lookup f12 = some ⟨oc12, od12, .func (PySem.W.fnOf "cases_without" "cases_without" (defArgs sCwo) (defBody sCwo) (defScope sCwo) .none kV12 dc12 pm12 an12 cd12 ct12), sl12⟩) (c12 : PySem.W.codeIn K cd12 "cases_without" = true) (k12 : PySem.W.keepIn K (.ref f12) = true)
    (a13 : PySem.W.nsIn K mainGlobals "cases_in_common" = some (some (.ref f13))) (l13 : K.lookup f13 = some ⟨oc13, od13, .func (PySem.W.fnOf "cases_in_common" "cases_in_common" (defArgs sCic) (defBody sCic) (defScope sCic) .none kV13 dc13 pm13 an13 cd13 ct13), sl13⟩) (c13 : PySem.W.codeIn K cd13 "cases_in_common" = true) (k13 : PySem.W.keepIn K (.ref f13) = true)
    (a14 : PySem.W.nsIn K mainGlobals "shows_cases" = some (some (.ref f14))) (l14 : K.lookup f14 = some ⟨oc14, od14, .func (PySem.W.fnOf "shows_cases" "shows_cases" (defArgs sShows) (defBody sShows) (defScope sShows) .none kV14 dc14 pm14 an14 cd14 ct14), sl14⟩) (c14 : PySem.W.codeIn K cd14 "shows_cases" = true) (k14 : PySem.W.keepIn K (.ref f14) = true)
    (a15 : PySem.W.nsIn K mainGlobals "_law_tape" = some (some (.ref f15))) (l15 : K.lookup f15 = some ⟨oc15, od15, .func (PySem.W.fnOf "_law_tape" "_law_tape" (defArgs sTape) (defBody sTape) (defScope sTape) .none kV15 dc15 pm15 an15 cd15 ct15), sl15⟩) (c15 : PySem.W.codeIn K cd15 "_law_tape" = true) (k15 : PySem.W.keepIn K (.ref f15) = true)
    (a16 : PySem.W.nsIn K mainGlobals "_law_draw" = some (some (.ref f16))) (l16 : K.lookup f16 = some ⟨oc16, od16, .func (PySem.W.fnOf "_law_draw" "_law_draw" (defArgs sDraw) (defBody sDraw) (defScope sDraw) .none kV16 dc16 pm16 an16 cd16 ct16), sl16⟩) (c16 : PySem.W.codeIn K cd16 "_law_draw" = true) (k16 : PySem.W.keepIn K (.ref f16) = true)
    (a17 : PySem.W.nsIn K mainGlobals "_law_folded" = some (some (.ref f17))) (l17 : K.lookup f17 = some ⟨oc17, od17, .func (PySem.W.fnOf "_law_folded" "_law_folded" (defArgs sFolded) (defBody sFolded) (defScope sFolded) .none kV17 dc17 pm17 an17 cd17 ct17), sl17⟩) (c17 : PySem.W.codeIn K cd17 "_law_folded" = true) (k17 : PySem.W.keepIn K (.ref f17) = true)
    (a18 : PySem.W.nsIn K mainGlobals "_law_names" = some (some (.ref f18))) (l18 : K.lookup f18 = some ⟨oc18, od18, .func (PySem.W.fnOf "_law_names" "_law_names" (defArgs sNames) (defBody sNames) (defScope sNames) .none kV18 dc18 pm18 an18 cd18 ct18), sl18⟩) (c18 : PySem.W.codeIn K cd18 "_law_names" = true) (k18 : PySem.W.keepIn K (.ref f18) = true)
    (a19 : PySem.W.nsIn K mainGlobals "_law_part" = some (some (.ref f19))) (l19 : K.lookup f19 = some ⟨oc19, od19, .func (PySem.W.fnOf "_law_part" "_law_part" (defArgs sPart) (defBody sPart) (defScope sPart) .none kV19 dc19 pm19 an19 cd19 ct19), sl19⟩) (c19 : PySem.W.codeIn K cd19 "_law_part" = true) (k19 : PySem.W.keepIn K (.ref f19) = true)
    (a20 : PySem.W.nsIn K mainGlobals "_law_facets" = some (some (.ref f20))) (l20 : K.lookup f20 = some ⟨oc20, od20, .func (PySem.W.fnOf "_law_facets" "_law_facets" (defArgs sFacets) (defBody sFacets) (defScope sFacets) .none kV20 dc20 pm20 an20 cd20 ct20), sl20⟩) (c20 : PySem.W.codeIn K cd20 "_law_facets" = true) (k20 : PySem.W.keepIn K (.ref f20) = true)
    (a21 : PySem.W.nsIn K mainGlobals "_law_settings" = some (some (.ref f21))) (l21 : K.lookup f21 = some ⟨oc21, od21, .func (PySem.W.fnOf "_law_settings" "_law_settings" (defArgs sLSettings) (defBody sLSettings) (defScope sLSettings) .none kV21 dc21 pm21 an21 cd21 ct21), sl21⟩) (c21 : PySem.W.codeIn K cd21 "_law_settings" = true) (k21 : PySem.W.keepIn K (.ref f21) = true)
    (a22 : PySem.W.nsIn K mainGlobals "_law_when" = some (some (.ref f22))) (l22 : K.lookup f22 = some ⟨oc22, od22, .func (PySem.W.fnOf "_law_when" "_law_when" (defArgs sWhen) (defBody sWhen) (defScope sWhen) .none kV22 dc22 pm22 an22 cd22 ct22), sl22⟩) (c22 : PySem.W.codeIn K cd22 "_law_when" = true) (k22 : PySem.W.keepIn K (.ref f22) = true)
    (a23 : PySem.W.nsIn K mainGlobals "_law_holds" = some (some (.ref f23))) (l23 : K.lookup f23 = some ⟨oc23, od23, .func (PySem.W.fnOf "_law_holds" "_law_holds" (defArgs sLHolds) (defBody sLHolds) (defScope sLHolds) .none kV23 dc23 pm23 an23 cd23 ct23), sl23⟩) (c23 : PySem.W.codeIn K cd23 "_law_holds" = true) (k23 : PySem.W.keepIn K (.ref f23) = true)
    (a24 : PySem.W.nsIn K mainGlobals "_law_rises" = some (some (.ref f24))) (l24 : K.lookup f24 = some ⟨oc24, od24, .func (PySem.W.fnOf "_law_rises" "_law_rises" (defArgs sLRises) (defBody sLRises) (defScope sLRises) .none kV24 dc24 pm24 an24 cd24 ct24), sl24⟩) (c24 : PySem.W.codeIn K cd24 "_law_rises" = true) (k24 : PySem.W.keepIn K (.ref f24) = true)
    (a25 : PySem.W.nsIn K mainGlobals "_law_is_case" = some (some (.ref f25))) (l25 : K.lookup f25 = some ⟨oc25, od25, .func (PySem.W.fnOf "_law_is_case" "_law_is_case" (defArgs sLIsCase) (defBody sLIsCase) (defScope sLIsCase) .none kV25 dc25 pm25 an25 cd25 ct25), sl25⟩) (c25 : PySem.W.codeIn K cd25 "_law_is_case" = true) (k25 : PySem.W.keepIn K (.ref f25) = true)
    (a26 : PySem.W.nsIn K mainGlobals "_law_all" = some (some (.ref f26))) (l26 : K.lookup f26 = some ⟨oc26, od26, .func (PySem.W.fnOf "_law_all" "_law_all" (defArgs sAll) (defBody sAll) (defScope sAll) .none kV26 dc26 pm26 an26 cd26 ct26), sl26⟩) (c26 : PySem.W.codeIn K cd26 "_law_all" = true) (k26 : PySem.W.keepIn K (.ref f26) = true)
    (a27 : PySem.W.nsIn K mainGlobals "_law_cases_right" = some (some (.ref f27))) (l27 : K.lookup f27 = some ⟨oc27, od27, .func (PySem.W.fnOf "_law_cases_right" "_law_cases_right" (defArgs sCR) (defBody sCR) (defScope sCR) .none kV27 dc27 pm27 an27 cd27 ct27), sl27⟩) (c27 : PySem.W.codeIn K cd27 "_law_cases_right" = true) (k27 : PySem.W.keepIn K (.ref f27) = true)
    (a28 : PySem.W.nsIn K mainGlobals "_law_right" = some (some (.ref f28))) (l28 : K.lookup f28 = some ⟨oc28, od28, .func (PySem.W.fnOf "_law_right" "_law_right" (defArgs sRight) (defBody sRight) (defScope sRight) .none kV28 dc28 pm28 an28 cd28 ct28), sl28⟩) (c28 : PySem.W.codeIn K cd28 "_law_right" = true) (k28 : PySem.W.keepIn K (.ref f28) = true)
    (a29 : PySem.W.nsIn K mainGlobals "law" = some (some (.ref f29))) (l29 : K.lookup f29 = some ⟨oc29, od29, .func (PySem.W.fnOf "law" "law" (defArgs sLaw) (defBody sLaw) (defScope sLaw) .none kV29 dc29 pm29 an29 cd29 ct29), sl29⟩) (c29 : PySem.W.codeIn K cd29 "law" = true) (k29 : PySem.W.keepIn K (.ref f29) = true)
    (z1 : PySem.W.nsIn K mainGlobals "len" = some none)
    (z2 : PySem.W.nsIn K mainGlobals "abs" = some none)
    (z3 : PySem.W.nsIn K mainGlobals "int" = some none)
    (z4 : PySem.W.nsIn K mainGlobals "list" = some none)
    (z5 : PySem.W.nsIn K mainGlobals "enumerate" = some none)
    (z6 : PySem.W.nsIn K mainGlobals "range" = some none)
    (z7 : PySem.W.nsIn K mainGlobals "zip" = some none)
    (z8 : PySem.W.nsIn K mainGlobals "isinstance" = some none)
    (z9 : PySem.W.nsIn K mainGlobals "tuple" = some none)
    (z10 : PySem.W.nsIn K mainGlobals "all" = some none)
    (z11 : PySem.W.nsIn K mainGlobals "str" = some none)
    (z12 : PySem.W.nsIn K mainGlobals "sorted" = some none)
    (z13 : PySem.W.nsIn K mainGlobals "max" = some none)
    (z14 : PySem.W.nsIn K mainGlobals "min" = some none)
    (z15 : PySem.W.nsIn K mainGlobals "repr" = some none) :
    ∃ fd : FuncData, (∀ (s : Shared) (v : Value), BindsTo s fd ⟨[v], []⟩ [("_law_script", v)]) ∧ ∀ base : Heap, K.In base → base.Ns mainGlobals mg → FnG l.prog w K mg base 11 fa fd ["_law_script"] (spLaw K) := by
  have e := hfa.symm.trans (PySem.W.mg_of X G a29)
  cases e
  have F1 := fun_mk (st := sRises) l1 c1 k1
  have g1 := PySem.W.mg_of X G a1
  have b1 := F1.binds (ps := ["texts"]) fun _ _ _ _ _ _ us hl => match us, hl with | [_], _ => rfl
  have F2 := fun_mk (st := sSome) l2 c2 k2
  have g2 := PySem.W.mg_of X G a2
  have b2 := F2.binds (ps := ["words", "thing"]) fun _ _ _ _ _ _ us hl => match us, hl with | [_, _], _ => rfl
  have F3 := fun_mk (st := sIsCase) l3 c3 k3
  have g3 := PySem.W.mg_of X G a3
  have b3 := F3.binds (ps := ["facets", "thing"]) fun _ _ _ _ _ _ us hl => match us, hl with | [_, _], _ => rfl
  have F4 := fun_mk (st := sSettingsIn) l4 c4 k4
  have g4 := PySem.W.mg_of X G a4
  have b4 := F4.binds (ps := ["case"]) fun _ _ _ _ _ _ us hl => match us, hl with | [_], _ => rfl
  have F5 := fun_mk (st := sWhole) l5 c5 k5
  have g5 := PySem.W.mg_of X G a5
  have b5 := F5.binds (ps := ["facets"]) fun _ _ _ _ _ _ us hl => match us, hl with | [_], _ => rfl
  have F6 := fun_mk (st := sCommon) l6 c6 k6
  have g6 := PySem.W.mg_of X G a6
  have b6 := F6.binds (ps := ["one", "other"]) fun _ _ _ _ _ _ us hl => match us, hl with | [_, _], _ => rfl
  have F7 := fun_mk (st := sWithout) l7 c7 k7
  have g7 := PySem.W.mg_of X G a7
  have b7 := F7.binds (ps := ["one", "other"]) fun _ _ _ _ _ _ us hl => match us, hl with | [_, _], _ => rfl
  have F8 := fun_mk (st := sBoth) l8 c8 k8
  have g8 := PySem.W.mg_of X G a8
  have b8 := F8.binds (ps := ["words", "others"]) fun _ _ _ _ _ _ us hl => match us, hl with | [_, _], _ => rfl
  have F9 := fun_mk (st := sPlace) l9 c9 k9
  have g9 := PySem.W.mg_of X G a9
  have b9 := F9.binds (ps := ["facets", "facet"]) fun _ _ _ _ _ _ us hl => match us, hl with | [_, _], _ => rfl
  have F10 := fun_mk (st := sHolds) l10 c10 k10
  have g10 := PySem.W.mg_of X G a10
  have b10 := F10.binds (ps := ["facets", "when", "setting"]) fun _ _ _ _ _ _ us hl => match us, hl with | [_, _, _], _ => rfl
  have F11 := fun_mk (st := sCases) l11 c11 k11
  have g11 := PySem.W.mg_of X G a11
  have b11 := F11.binds (ps := ["facets", "when"]) fun _ _ _ _ _ _ us hl => match us, hl with | [_, _], _ => rfl
  have F12 := fun_mk (st := sCwo) l12 c12 k12
  have g12 := PySem.W.mg_of X G a12
  have b12 := F12.binds (ps := ["cases", "others"]) fun _ _ _ _ _ _ us hl => match us, hl with | [_, _], _ => rfl
  have F13 := fun_mk (st := sCic) l13 c13 k13
  have g13 := PySem.W.mg_of X G a13
  have b13 := F13.binds (ps := ["cases", "others"]) fun _ _ _ _ _ _ us hl => match us, hl with | [_, _], _ => rfl
  have F14 := fun_mk (st := sShows) l14 c14 k14
  have g14 := PySem.W.mg_of X G a14
  have b14 := F14.binds (ps := ["facets", "when", "thing"]) fun _ _ _ _ _ _ us hl => match us, hl with | [_, _, _], _ => rfl
  have F15 := fun_mk (st := sTape) l15 c15 k15
  have g15 := PySem.W.mg_of X G a15
  have b15 := F15.binds (ps := ["_law_script", "_law_k"]) fun _ _ _ _ _ _ us hl => match us, hl with | [_, _], _ => rfl
  have F16 := fun_mk (st := sDraw) l16 c16 k16
  have g16 := PySem.W.mg_of X G a16
  have b16 := F16.binds (ps := ["_law_tape_here", "_law_many"]) fun _ _ _ _ _ _ us hl => match us, hl with | [_, _], _ => rfl
  have F17 := fun_mk (st := sFolded) l17 c17 k17
  have g17 := PySem.W.mg_of X G a17
  have b17 := F17.binds (ps := ["_law_script", "_law_many"]) fun _ _ _ _ _ _ us hl => match us, hl with | [_, _], _ => rfl
  have F18 := fun_mk (st := sNames) l18 c18 k18
  have g18 := PySem.W.mg_of X G a18
  have b18 := F18.binds (ps := ["_law_tape_here", "_law_many"]) fun _ _ _ _ _ _ us hl => match us, hl with | [_, _], _ => rfl
  have F19 := fun_mk (st := sPart) l19 c19 k19
  have g19 := PySem.W.mg_of X G a19
  have b19 := F19.binds (ps := ["_law_tape_here", "_law_some", "_law_many"]) fun _ _ _ _ _ _ us hl => match us, hl with | [_, _, _], _ => rfl
  have F20 := fun_mk (st := sFacets) l20 c20 k20
  have g20 := PySem.W.mg_of X G a20
  have b20 := F20.binds (ps := ["_law_tape_here", "_law_many", "_law_most"]) fun _ _ _ _ _ _ us hl => match us, hl with | [_, _, _], _ => rfl
  have F21 := fun_mk (st := sLSettings) l21 c21 k21
  have g21 := PySem.W.mg_of X G a21
  have b21 := F21.binds (ps := ["_law_some"]) fun _ _ _ _ _ _ us hl => match us, hl with | [_], _ => rfl
  have F22 := fun_mk (st := sWhen) l22 c22 k22
  have g22 := PySem.W.mg_of X G a22
  have b22 := F22.binds (ps := ["_law_tape_here", "_law_its_facets", "_law_deep"]) fun _ _ _ _ _ _ us hl => match us, hl with | [_, _, _], _ => rfl
  have F23 := fun_mk (st := sLHolds) l23 c23 k23
  have g23 := PySem.W.mg_of X G a23
  have b23 := F23.binds (ps := ["_law_its_facets", "_law_its_when", "_law_setting"]) fun _ _ _ _ _ _ us hl => match us, hl with | [_, _, _], _ => rfl
  have F24 := fun_mk (st := sLRises) l24 c24 k24
  have g24 := PySem.W.mg_of X G a24
  have b24 := F24.binds (ps := ["_law_some"]) fun _ _ _ _ _ _ us hl => match us, hl with | [_], _ => rfl
  have F25 := fun_mk (st := sLIsCase) l25 c25 k25
  have g25 := PySem.W.mg_of X G a25
  have b25 := F25.binds (ps := ["_law_a_facets", "_law_a_thing"]) fun _ _ _ _ _ _ us hl => match us, hl with | [_, _], _ => rfl
  have F26 := fun_mk (st := sAll) l26 c26 k26
  have g26 := PySem.W.mg_of X G a26
  have b26 := F26.binds (ps := ["_law_a_facets"]) fun _ _ _ _ _ _ us hl => match us, hl with | [_], _ => rfl
  have F27 := fun_mk (st := sCR) l27 c27 k27
  have g27 := PySem.W.mg_of X G a27
  have b27 := F27.binds (ps := ["_law_a_facets", "_law_a_when", "_law_a_thing"]) fun _ _ _ _ _ _ us hl => match us, hl with | [_, _, _], _ => rfl
  have F28 := fun_mk (st := sRight) l28 c28 k28
  have g28 := PySem.W.mg_of X G a28
  have b28 := F28.binds (ps := ["_law_tape_here"]) fun _ _ _ _ _ _ us hl => match us, hl with | [_], _ => rfl
  have F29 := fun_mk (st := sLaw) l29 c29 k29
  have g29 := PySem.W.mg_of X G a29
  have mlen := PySem.W.mg_none_of X G z1
  have mabs := PySem.W.mg_none_of X G z2
  have mint := PySem.W.mg_none_of X G z3
  have mlist := PySem.W.mg_none_of X G z4
  have menumerate := PySem.W.mg_none_of X G z5
  have mrange := PySem.W.mg_none_of X G z6
  have mzip := PySem.W.mg_none_of X G z7
  have misinstance := PySem.W.mg_none_of X G z8
  have mtuple := PySem.W.mg_none_of X G z9
  have mall := PySem.W.mg_none_of X G z10
  have mstr := PySem.W.mg_none_of X G z11
  have msorted := PySem.W.mg_none_of X G z12
  have mmax := PySem.W.mg_none_of X G z13
  have mmin := PySem.W.mg_none_of X G z14
  have mrepr := PySem.W.mg_none_of X G z15
  have kC := kb_swap F11 (a := "facets") (b := "when") fun _ _ _ _ _ _ _ _ => rfl
  have kS := kb_rev3 F14 (a := "facets") (b := "when") (c := "thing") fun _ _ _ _ _ _ _ _ _ => rfl
  refine ⟨PySem.W.fnOf "law" "law" (defArgs sLaw) (defBody sLaw) (defScope sLaw) .none kV29 dc29 pm29 an29 cd29 ct29, fun s v => .of_eq rfl, fun base _ _ => ?_⟩
  have GHo : FnOk l.prog w K mg base CX0 5 f10 _ ["facets", "when", "setting"] (spHolds 4) := ok_holds F10 b10 g10 F9 b9 g9 4
  have GLh : FnOk l.prog w K mg base CX0 5 f23 _ ["_law_its_facets", "_law_its_when", "_law_setting"] (spHolds 4) := ok_lholds F23 b23 g23 menumerate 4
  have GWn : FnOk l.prog w K mg base CX0 6 f22 _ ["_law_tape_here", "_law_its_facets", "_law_deep"] (spWhen 3) := ok_when F22 b22 g22 F16 b16 g16 F19 b19 g19 mlen mrange mlist msorted mtuple mmin 3
  have GCm : ∀ k, FnOk l.prog w K mg base CX0 (k + 2) f6 _ ["one", "other"] spCommon := fun k => ok_common (k := k) F6 F8 b8 g8 mtuple mzip
  have GWo : ∀ k, FnOk l.prog w K mg base CX0 (k + 3) f7 _ ["one", "other"] spWithout := fun k => ok_without (k := k) F7 F6 b6 g6 F8 b8 g8 mtuple mzip menumerate
  have GCs : FnOk l.prog w K mg base CX0 9 f11 _ ["facets", "when"] (spCases 4) := ok_cases F11 b11 g11 F9 b9 g9 F5 b5 g5 mtuple F12 b12 g12 (fun k => ok_cwo F12 F7 b7 g7 (GWo k)) F13 b13 g13 (fun k => ok_cic F13 F6 b6 g6 (GCm k)) 4
  have GIc : FnOk l.prog w K mg base CX0 7 f3 _ ["facets", "thing"] spIsCase := ok_is_case (k := 4) F3 F2 b2 g2 F1 b1 g1 mlen mrange mall misinstance mtuple mzip
  have GLi : FnOk l.prog w K mg base CX0 7 f25 _ ["_law_a_facets", "_law_a_thing"] spIsCase := ok_lis_case (k := 5) F25 F24 b24 g24 mlen mall misinstance mtuple mstr mzip
  have GSh : FnOk l.prog w K mg base CX0 8 f14 _ ["facets", "when", "thing"] (spShows 4) := ok_shows (n := 4) F14 F5 b5 g5 (ok_whole (k := 6) F5 mtuple) F4 b4 g4 (ok_settings_in (k := 6) F4) F3 b3 g3 GIc F10 b10 g10 (GHo.mono (by decide)) mlen mall misinstance mlist msorted
  have GAl : ∀ k, FnOk l.prog w K mg base CX0 (k + 2) f26 _ ["_law_a_facets"] spAll := fun k => ok_all (k := k) F26 F21 b21 g21
  have GCr : FnOk l.prog w K mg base CX0 8 f27 _ ["_law_a_facets", "_law_a_when", "_law_a_thing"] (spCR 4) := ok_cr (n := 4) F27 F21 b21 g21 (ok_lsettings (k := 6) F21) F25 b25 g25 GLi F26 b26 g26 (GAl 5) F23 b23 g23 (GLh.mono (by decide)) mall misinstance mlist msorted
  have GR := ok_right F28 F16 b16 g16 (ok_draw (k := 8) F16) F20 b20 g20 (ok_facets (k := 6) F20 F16 b16 g16 F18 b18 g18 mlen mrange mint msorted mtuple) F22 b22 g22 (GWn.mono (by decide)) F11 b11 kC g11 GCs F27 b27 g27 (GCr.mono (by decide)) F14 b14 kS g14 (GSh.mono (by decide)) F26 b26 g26 (GAl 7) F23 b23 g23 (GLh.mono (by decide)) F19 b19 g19 (ok_part (k := 7) F19 F16 b16 g16 mlen mrange mlist) mlen mrange mtuple mrepr
  exact ok_law F29 F17 b17 g17 (ok_folded (k := 9) F17 mlist menumerate) F15 b15 g15 (ok_tape (k := 9) F15 mlen mabs mint) F28 b28 g28 GR mlen mrange mall mmax
end Sg

open PySem PySem.W PyProof.Rows
set_option maxRecDepth 100000 in
set_option maxHeartbeats 0 in
theorem PySem.Challenge.cw_sheafbooks_k06_cases_of_whens_holds : PySem.Challenge.rw_sheafbooks_k06_cases_of_whens.Holds := by
  w_on; o_law; k_head; (case hw => w_witness2)
  k_fill
  refine Sg.walk_G (l := PySem.Challenge.rw_sheafbooks_k06_cases_of_whens) (n := 63) (k := 11) (x := "_law_script") (sp := fun w => Sg.spLaw _) rfl (by decide) rfl ⟨rfl, by decide, by decide⟩ (fun w h Y => PySem.W.kIn_of Y) ?F (fun _ _ a ns hl hS => ⟨a, ns, rfl, hS, hl, fun _ => rfl⟩)
  case F =>
    intro w mg fa h KX G hmg
    refine' Sg.all_mk KX G hmg ?a1 ?l1 ?c1 ?k1 ?a2 ?l2 ?c2 ?k2 ?a3 ?l3 ?c3 ?k3 ?a4 ?l4 ?c4 ?k4 ?a5 ?l5 ?c5 ?k5 ?a6 ?l6 ?c6 ?k6 ?a7 ?l7 ?c7 ?k7 ?a8 ?l8 ?c8 ?k8 ?a9 ?l9 ?c9 ?k9 ?a10 ?l10 ?c10 ?k10 ?a11 ?l11 ?c11 ?k11 ?a12 ?l12 ?c12 ?k12 ?a13 ?l13 ?c13 ?k13 ?a14 ?l14 ?c14 ?k14 ?a15 ?l15 ?c15 ?k15 ?a16 ?l16 ?c16 ?k16 ?a17 ?l17 ?c17 ?k17 ?a18 ?l18 ?c18 ?k18 ?a19 ?l19 ?c19 ?k19 ?a20 ?l20 ?c20 ?k20 ?a21 ?l21 ?c21 ?k21 ?a22 ?l22 ?c22 ?k22 ?a23 ?l23 ?c23 ?k23 ?a24 ?l24 ?c24 ?k24 ?a25 ?l25 ?c25 ?k25 ?a26 ?l26 ?c26 ?k26 ?a27 ?l27 ?c27 ?k27 ?a28 ?l28 ?c28 ?k28 ?a29 ?l29 ?c29 ?k29 ?z1 ?z2 ?z3 ?z4 ?z5 ?z6 ?z7 ?z8 ?z9 ?z10 ?z11 ?z12 ?z13 ?z14 ?z15
    (case a1 => k_is); (case l1 => k_is); (case c1 => k_is); (case k1 => k_is); (case a2 => k_is); (case l2 => k_is); (case c2 => k_is); (case k2 => k_is); (case a3 => k_is); (case l3 => k_is); (case c3 => k_is); (case k3 => k_is); (case a4 => k_is); (case l4 => k_is); (case c4 => k_is); (case k4 => k_is); (case a5 => k_is); (case l5 => k_is); (case c5 => k_is); (case k5 => k_is); (case a6 => k_is); (case l6 => k_is); (case c6 => k_is); (case k6 => k_is); (case a7 => k_is); (case l7 => k_is); (case c7 => k_is); (case k7 => k_is); (case a8 => k_is); (case l8 => k_is); (case c8 => k_is); (case k8 => k_is); (case a9 => k_is); (case l9 => k_is); (case c9 => k_is); (case k9 => k_is); (case a10 => k_is); (case l10 => k_is); (case c10 => k_is); (case k10 => k_is); (case a11 => k_is); (case l11 => k_is); (case c11 => k_is); (case k11 => k_is); (case a12 => k_is); (case l12 => k_is); (case c12 => k_is); (case k12 => k_is); (case a13 => k_is); (case l13 => k_is); (case c13 => k_is); (case k13 => k_is); (case a14 => k_is); (case l14 => k_is); (case c14 => k_is); (case k14 => k_is); (case a15 => k_is); (case l15 => k_is); (case c15 => k_is); (case k15 => k_is); (case a16 => k_is); (case l16 => k_is); (case c16 => k_is); (case k16 => k_is); (case a17 => k_is); (case l17 => k_is); (case c17 => k_is); (case k17 => k_is); (case a18 => k_is); (case l18 => k_is); (case c18 => k_is); (case k18 => k_is); (case a19 => k_is); (case l19 => k_is); (case c19 => k_is); (case k19 => k_is); (case a20 => k_is); (case l20 => k_is); (case c20 => k_is); (case k20 => k_is); (case a21 => k_is); (case l21 => k_is); (case c21 => k_is); (case k21 => k_is); (case a22 => k_is); (case l22 => k_is); (case c22 => k_is); (case k22 => k_is); (case a23 => k_is); (case l23 => k_is); (case c23 => k_is); (case k23 => k_is); (case a24 => k_is); (case l24 => k_is); (case c24 => k_is); (case k24 => k_is); (case a25 => k_is); (case l25 => k_is); (case c25 => k_is); (case k25 => k_is); (case a26 => k_is); (case l26 => k_is); (case c26 => k_is); (case k26 => k_is); (case a27 => k_is); (case l27 => k_is); (case c27 => k_is); (case k27 => k_is); (case a28 => k_is); (case l28 => k_is); (case c28 => k_is); (case k28 => k_is); (case a29 => k_is); (case l29 => k_is); (case c29 => k_is); (case k29 => k_is); (case z1 => k_is); (case z2 => k_is); (case z3 => k_is); (case z4 => k_is); (case z5 => k_is); (case z6 => k_is); (case z7 => k_is); (case z8 => k_is); (case z9 => k_is); (case z10 => k_is); (case z11 => k_is); (case z12 => k_is); (case z13 => k_is); (case z14 => k_is); (case z15 => k_is)

