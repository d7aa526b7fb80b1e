import PyProof.Rows.All
import Wide.All
import OpenK.AllK
import Wide.FinOn
import KE.GoesMore
import HandS.ForMost
import HandS.Walk
import HandS.Zip
import HandS.TupAny
import HandS.IsInst
import HandS.Deep
import HandS.Conv
import HandS.Style
import HandS.Flow
import HandS.Wide
import PyProof.ReprRoads
import HandS.Ends
import KE.SortData
import PySem.Challenge.RW_sheafbooks_k30_what_is_left
import PyProof.EnumMake
import PyProof.Rows.StrRev
import PyProof.DictUpdate
import HandS.Codes
import PyProof.ReprBulk
import PyProof.StrLawsFrom
set_option Elab.async false
set_option linter.all false
set_option maxRecDepth 100000
set_option maxHeartbeats 4000000
namespace Sg
open PySem PySem.Spec PyProof.Rows L2
/-! ### heaps -/
theorem same_upd {H : Hp} {p : Addr} {o : HO} (h : H p = none) : Same H (upd H p o) := fun b x e => by
  rw [upd_ne (ne_of_none e h)]
  exact e
/-- all but what stands at t is as it was -/
def Ex (t : Addr) (H H' : Hp) : Prop := ∀ a o, a ≠ t → H a = some o → H' a = some o
theorem Ex.refl (t : Addr) (H : Hp) : Ex t H H := fun _ _ _ h => h
theorem Ex.trans {t : Addr} {H H1 H2 : Hp} (a : Ex t H H1) (b : Ex t H1 H2) : Ex t H H2 := fun c o n h => b c o n (a c o n h)
theorem Same.ex {t : Addr} {H H' : Hp} (s : Same H H') : Ex t H H' := fun c o _ h => s c o h
theorem Ex.upd {t : Addr} {H H' : Hp} {o : HO} (s : Ex t H H') : Ex t H (upd H' t o) := fun c u n h => by
  rw [upd_ne n]
  exact s c u n h
theorem Ex.free {t : Addr} {H H' : Hp} (s : Ex t H H') {l : Addr} (hn : l ≠ t) (h : H' l = none) : H l = none := by
  cases q : H l with
  | none => rfl
  | some o =>
    rw [s l o hn q] at h
    cases h
/-- tuples stay -/
def KeepT (H H' : Hp) : Prop := ∀ a xs, H a = some (.tup xs) → H' a = some (.tup xs)
theorem Same.keepT {H H' : Hp} (s : Same H H') : KeepT H H' := fun a xs h => s a _ h
theorem KeepT.refl (H : Hp) : KeepT H H := fun _ _ h => h
theorem KeepT.trans {H H1 H2 : Hp} (a : KeepT H H1) (b : KeepT H1 H2) : KeepT H H2 := fun c o h => b c o (a c o h)
theorem Ex.keepT {t : Addr} {H H' : Hp} {ys : List V} (s : Ex t H H') (ht : H t = some (.lst ys)) : KeepT H H' := fun a xs h => by
  by_cases e : a = t
  · subst e
    rw [ht] at h
    cases h
  · exact s a _ e h
theorem keepT_lst {H : Hp} {l : Addr} {xs ys : List V} (h : H l = some (.lst xs)) : KeepT H (upd H l (.lst ys)) := fun a zs e => by
  rw [upd_ne (fun q => by subst q; rw [h] at e; cases e)]
  exact e
/-! ### data: tuples and lists of data -/
mutual
inductive Rp (H : Hp) : V → PyData → Prop
  | non : Rp H .non .none
  | bl (b : Bool) : Rp H (.bl b) (.bool b)
  | int (i : Int) : Rp H (.int i) (.int i)
  | str (x : Str) : Rp H (.str x) (.str x)
  | lst {a : Addr} {xs : List V} {ds : List PyData} : H a = some (.lst xs) → RpAll H xs ds → Rp H (.ref a) (.list ds)
  | tup {a : Addr} {xs : List V} {ds : List PyData} : H a = some (.tup xs) → RpAll H xs ds → Rp H (.ref a) (.tuple ds)
inductive RpAll (H : Hp) : List V → List PyData → Prop
  | nil : RpAll H [] []
  | cons {v : V} {vs : List V} {d : PyData} {ds : List PyData} : Rp H v d → RpAll H vs ds → RpAll H (v :: vs) (d :: ds)
end
mutual
theorem Rp.same {H H' : Hp} (s : Same H H') : ∀ {v : V} {d : PyData}, Rp H v d → Rp H' v d
  | _, _, .non => .non
  | _, _, .bl b => .bl b
  | _, _, .int i => .int i
  | _, _, .str x => .str x
  | _, _, .lst h hs => .lst (s _ _ h) (RpAll.same s hs)
  | _, _, .tup h hs => .tup (s _ _ h) (RpAll.same s hs)
theorem RpAll.same {H H' : Hp} (s : Same H H') : ∀ {vs : List V} {ds : List PyData}, RpAll H vs ds → RpAll H' vs ds
  | _, _, .nil => .nil
  | _, _, .cons h hs => .cons (Rp.same s h) (RpAll.same s hs)
end
mutual
theorem Rp.dp {K : PySem.W.Frag} {H : Hp} : ∀ {v : V} {d : PyData}, Rp H v d → Dp K H v d
  | _, _, .non => .non
  | _, _, .bl b => .bl b
  | _, _, .int i => .int i
  | _, _, .str x => .str x
  | _, _, .lst h hs => .lst (.inl (.inl h)) (RpAll.dp hs)
  | _, _, .tup h hs => .tup (.inl (.inl h)) (RpAll.dp hs)
theorem RpAll.dp {K : PySem.W.Frag} {H : Hp} : ∀ {vs : List V} {ds : List PyData}, RpAll H vs ds → DpAll K H vs ds
  | _, _, .nil => .nil
  | _, _, .cons h hs => .cons (Rp.dp h) (RpAll.dp hs)
end
/-! no list in it: it stays whatever lists become -/
mutual
def imm : PyData → Bool
  | .list _ => false
  | .tuple ds => immAll ds
  | _ => true
def immAll : List PyData → Bool
  | [] => true
  | d :: ds => imm d && immAll ds
end
mutual
theorem Rp.keep {H H' : Hp} (s : KeepT H H') : ∀ {v : V} {d : PyData}, Rp H v d → imm d = true → Rp H' v d
  | _, _, .non, _ => .non
  | _, _, .bl b, _ => .bl b
  | _, _, .int i, _ => .int i
  | _, _, .str x, _ => .str x
  | _, _, .lst h hs, e => by simp [imm] at e
  | _, _, .tup h hs, e => .tup (s _ _ h) (RpAll.keep s hs (by simpa [imm] using e))
theorem RpAll.keep {H H' : Hp} (s : KeepT H H') : ∀ {vs : List V} {ds : List PyData}, RpAll H vs ds → immAll ds = true → RpAll H' vs ds
  | _, _, .nil, _ => .nil
  | _, _, .cons h hs, e => by
    simp only [immAll, Bool.and_eq_true] at e
    exact .cons (Rp.keep s h e.1) (RpAll.keep s hs e.2)
end
theorem RpAll.length {H : Hp} : ∀ {vs : List V} {ds : List PyData}, RpAll H vs ds → vs.length = ds.length
  | _, _, .nil => rfl
  | _, _, .cons _ hs => by rw [List.length_cons, List.length_cons, RpAll.length hs]
theorem RpAll.get {H : Hp} : ∀ {vs : List V} {ds : List PyData} {i : Nat} {v : V}, RpAll H vs ds → vs[i]? = some v → ∃ d, ds[i]? = some d ∧ Rp H v d
  | _, _, _, _, .nil, e => by simp at e
  | _, _, 0, _, .cons h _, e => by simp at e; subst e; exact ⟨_, rfl, h⟩
  | _, _, i + 1, _, .cons _ hs, e => by
    rw [List.getElem?_cons_succ] at e
    rw [List.getElem?_cons_succ]
    exact RpAll.get hs e
theorem RpAll.getD {H : Hp} : ∀ {vs : List V} {ds : List PyData} {i : Nat} {d : PyData}, RpAll H vs ds → ds[i]? = some d → ∃ v, vs[i]? = some v ∧ Rp H v d
  | _, _, _, _, .nil, e => by simp at e
  | _, _, 0, _, .cons h _, e => by simp at e; subst e; exact ⟨_, rfl, h⟩
  | _, _, i + 1, _, .cons _ hs, e => by
    rw [List.getElem?_cons_succ] at e
    rw [List.getElem?_cons_succ]
    exact RpAll.getD hs e
theorem RpAll.append {H : Hp} : ∀ {vs ws : List V} {ds es : List PyData}, RpAll H vs ds → RpAll H ws es → RpAll H (vs ++ ws) (ds ++ es)
  | _, _, _, _, .nil, h => h
  | _, _, _, _, .cons h hs, h2 => .cons h (RpAll.append hs h2)
theorem RpAll.take {H : Hp} : ∀ {vs : List V} {ds : List PyData} (n : Nat), RpAll H vs ds → RpAll H (vs.take n) (ds.take n)
  | _, _, 0, _ => by rw [List.take_zero, List.take_zero]; exact .nil
  | _, _, n + 1, .nil => .nil
  | _, _, n + 1, .cons h hs => .cons h (RpAll.take n hs)
theorem RpAll.drop {H : Hp} : ∀ {vs : List V} {ds : List PyData} (n : Nat), RpAll H vs ds → RpAll H (vs.drop n) (ds.drop n)
  | _, _, 0, h => h
  | _, _, n + 1, .nil => .nil
  | _, _, n + 1, .cons h hs => RpAll.drop n hs
theorem RpAll.strs {H : Hp} : ∀ (ws : List Str), RpAll H (ws.map V.str) (ws.map PyData.str)
  | [] => .nil
  | w :: ws => .cons (.str w) (RpAll.strs ws)
theorem RpAll.strs_eq {H : Hp} : ∀ {vs : List V} {ws : List Str}, RpAll H vs (ws.map PyData.str) → vs = ws.map V.str
  | _, [], .nil => rfl
  | _, w :: ws, .cons h hs => by
    cases h
    rw [List.map_cons, RpAll.strs_eq hs]
theorem immAll_strs : ∀ ws : List Str, immAll (ws.map PyData.str) = true
  | [] => rfl
  | w :: ws => by
    rw [List.map_cons]
    show (imm (PyData.str w) && immAll (ws.map PyData.str)) = true
    rw [immAll_strs ws]
    rfl
theorem immAll_map {α : Type} {f : α → PyData} (hf : ∀ x, imm (f x) = true) : ∀ xs : List α, immAll (xs.map f) = true
  | [] => rfl
  | x :: xs => by
    rw [List.map_cons]
    show (imm (f x) && immAll (xs.map f)) = true
    rw [hf x, immAll_map hf xs]
    rfl
/-! the text's words -/
def dW (ws : List Str) : PyData := .tuple (ws.map .str)
def dC (c : List (List Str)) : PyData := .tuple (c.map dW)
def dF (fs : List (Str × List Str)) : PyData := .tuple (fs.map fun p => .tuple [.str p.1, dW p.2])
theorem imm_dW (ws : List Str) : imm (dW ws) = true := immAll_strs ws
theorem imm_dC (c : List (List Str)) : imm (dC c) = true := immAll_map imm_dW c
theorem imm_dP (p : Str × List Str) : imm (.tuple [.str p.1, dW p.2]) = true := by
  show (imm (.str p.1) && (imm (dW p.2) && immAll [])) = true
  rw [imm_dW]
  rfl
theorem imm_dF (fs : List (Str × List Str)) : imm (dF fs) = true := immAll_map imm_dP fs
theorem Rp.dW_inv {H : Hp} {v : V} {ws : List Str} (h : Rp H v (dW ws)) : ∃ a, v = .ref a ∧ H a = some (.tup (ws.map V.str)) := by
  unfold dW at h
  cases h with
  | tup ha hs => exact ⟨_, rfl, by rw [ha, RpAll.strs_eq hs]⟩
theorem Rp.dW_mk {H : Hp} {a : Addr} {ws : List Str} (h : H a = some (.tup (ws.map V.str))) : Rp H (.ref a) (dW ws) := .tup h (RpAll.strs ws)
/-! ### rules of our own -/
section
variable {X : Cx} {CX : CXT} {k : Nat} {f : Addr} {fd : FuncData} {ps ks : List Str} {sp : Sp} {E : XK} {x : Str} {p pos : Pos} {kws : List Keyword} {tk : TA} {g : List Value → List Value → List Value} {gV : List V → List V → List V}
/-- f(k = e, ..) without places -/
theorem pe_callK0 (F : FnOk X.prog X.w X.K X.mg X.base CX k f fd ps sp) (hr : Room k X.A) (hg : Gl X x) (hm : X.mg x = some (.ref f)) (hk : PySem.W.keepIn X.K (.ref f) = true) (hb : KBinds X.K fd ps ks g gV) (hx : Passes CX X E) (hkw : PK X kws tk)
    (hall : (backToKw pos (keywordEach kws X.env)).all (·.1.isSome) = true := by rfl) (hks : (backToKw pos (keywordEach kws X.env)).filterMap (·.1) = ks := by rfl) (hdb : (x == ("__debug__" : Str)) = false := by decide)
    (hpl : ((backTo pos (starEach [] X.env)).any (·.1) || (backToKw pos (keywordEach kws X.env)).any (·.1.isNone)) = false := by rfl) :
    PE X (.Call (.Name x p) [] kws pos) (tCallK sp gV E tNil tk) := by
  refine ⟨fun pins s σ H Q I h => ?_⟩
  refine wpAny_Call_Name_kw (ld_glob I hg hm ?_ hdb)
  refine PySem.W.callWith_KW0 (h₀ := X.base) I.ok.mod.kin hk hall ?_ hpl
  refine thn (hkw.run pos pins s σ H _ I h) fun ws s2 ⟨zs, H2, I2, rz, q2⟩ => ⟨I2.kIn, ?_⟩
  rw [hks]
  exact run_fnk (us := []) (vs := []) F hr hb hx I2 .nil rz q2
end
section
variable {X : Cx}
/-- x in t: t a tuple of data -/
def rInTD (K : PySem.W.Frag) : R2 := fun x y H Q => ∃ d ds, Dp K H x d ∧ Dp K H y (.tuple ds) ∧ SeqAt.shaped d = true ∧ SeqAt.shaped (.tuple ds) = true ∧ Q (.bl (ds.any fun z => PyData.eqv z d)) H
theorem op_inTD (hu : X.A.units + 65 < cLine) : OpR X (compareOp .In) (rInTD X.K) := by
  intro pins s σ H x y v u Q I rx ry h
  obtain ⟨d, ds, hd, he, sd, se, q⟩ := h
  obtain ⟨as, r1⟩ := Dp.reads I d x v hd rx
  obtain ⟨bs, r2⟩ := Dp.reads I (.tuple ds) y u he ry
  exact SeqAt.in_tuple_reads r2 r1 (SeqAt.canLay_of_shaped se) (SeqAt.canLay_of_shaped sd) (room_in_shaped sd hu) ⟨.bl _, H, I, rfl, q⟩
/-- a text, none or one time -/
def rRepS : R2 := fun x y H Q => ∃ (z : Str) (n : Int), x = .str z ∧ y = .int n ∧ (n = 0 ∨ n = 1) ∧ Q (.str (if n = 0 then Str.empty else z)) H
theorem op_repS : OpR X (binaryOp .Mult) rRepS := by
  intro pins s σ H x y v u Q I rx ry h
  obtain ⟨z, n, rfl, rfl, hn, q⟩ := h
  obtain ⟨t, rfl⟩ := rx
  obtain ⟨t2, rfl⟩ := ry
  rcases hn with rfl | rfl
  · rw [if_pos rfl] at q
    exact PySem.P.mul_str_none (by decide) (by decide) ⟨.str Str.empty, H, I.kept (fun _ _ h => h), ⟨_, rfl⟩, q⟩
  · rw [if_neg (by decide)] at q
    refine PySem.P.mul_str (by decide) (fun _ h => by simp at h) (fun _ h => by simp at h) ?_
    rw [if_neg (by decide), if_pos (by simp)]
    exact ⟨.str z, H, I, ⟨_, rfl⟩, q⟩
theorem rep_len (z : Str) (n : Int) : (if n = 0 then Str.empty else z).length ≤ z.length := by
  split
  · exact Nat.zero_le _
  · exact Nat.le_refl _
end
/-! ### texts of small letters -/
def Low (x : Str) : Prop := ∀ c ∈ x.cps.toList, 97 ≤ c ∧ c ≤ 122
def Wd (x : Str) : Prop := x.length ≤ 16 ∧ Low x
theorem Low.append {x y : Str} (hx : Low x) (hy : Low y) : Low (x ++ y) := fun c hc => by
  have e : (x ++ y).cps.toList = x.cps.toList ++ y.cps.toList := TL.tl_append x y
  rw [e] at hc
  rcases List.mem_append.mp hc with h | h
  · exact hx c h
  · exact hy c h
theorem Low.empty : Low Str.empty := fun c hc => by
  have e : Str.empty.cps.toList = [] := rfl
  rw [e] at hc
  cases hc
theorem Low.cut {z : Str} (h : Low z) (lo hi : Option Int) : Low (cutS z lo hi) := fun c hc => by
  have e : (cutS z lo hi).cps.toList = (z.cps.toList.drop (HT.sIx z.length 0 lo)).take (HT.sIx z.length z.length hi - HT.sIx z.length 0 lo) := rfl
  rw [e] at hc
  exact h c (List.mem_of_mem_drop (List.mem_of_mem_take hc))
theorem Low.rep {z : Str} (h : Low z) (n : Int) : Low (if n = 0 then Str.empty else z) := by
  split
  · exact Low.empty
  · exact h
theorem Low.join : ∀ cs : List Str, (∀ x ∈ cs, Low x) → Low (Str.join (Str.ofString "") cs)
  | [], _ => Low.empty
  | [x], h => h x (List.mem_singleton.mpr rfl)
  | x :: y :: r, h => by
    show Low (x ++ Str.ofString "" ++ Str.join (Str.ofString "") (y :: r))
    refine ((h x (List.mem_cons_self ..)).append ?_).append (Low.join (y :: r) fun z hz => h z (List.mem_cons_of_mem _ hz))
    intro c hc
    rw [show (Str.ofString "").cps.toList = [] by decide +kernel] at hc
    cases hc
theorem Low.ok {x : Str} (h : Low x) : PyData.strOk x = true := by
  unfold PyData.strOk
  rw [← Array.all_toList, List.all_eq_true]
  intro c hc
  exact decide_eq_true (by have := h c hc; omega)
/-! ### shapes: what may be compared -/
theorem canLayAll_map {α : Type} {f : α → PyData} {xs : List α} (hf : ∀ x ∈ xs, (f x).canLay0 = true) : PyData.canLayAll0 (xs.map f) = true := by
  induction xs with
  | nil => rfl
  | cons x r ih =>
    rw [List.map_cons]
    show ((f x).canLay0 && PyData.canLayAll0 (r.map f)) = true
    rw [hf x (List.mem_cons_self ..), ih fun y hy => hf y (List.mem_cons_of_mem _ hy)]
    rfl
theorem depthAll_map {α : Type} {f : α → PyData} {k : Nat} {xs : List α} (hf : ∀ x ∈ xs, (f x).depth ≤ k) : PyData.depthAll (xs.map f) ≤ k := by
  induction xs with
  | nil => exact Nat.zero_le _
  | cons x r ih =>
    rw [List.map_cons]
    show max (f x).depth (PyData.depthAll (r.map f)) ≤ k
    exact Nat.max_le.mpr ⟨hf x (List.mem_cons_self ..), ih fun y hy => hf y (List.mem_cons_of_mem _ hy)⟩
theorem shaped_of {d : PyData} (h : d.canLay0 = true) (hd : d.depth ≤ 64) : SeqAt.shaped d = true := by
  unfold SeqAt.shaped
  rw [h, decide_eq_true hd]
  rfl
theorem lay_dW {ws : List Str} (h : ∀ x ∈ ws, Wd x) : (dW ws).canLay0 = true := canLayAll_map fun x hx => (h x hx).2.ok
theorem dep_dW (ws : List Str) : (dW ws).depth ≤ 1 := Nat.succ_le_succ (depthAll_map (k := 0) fun _ _ => Nat.le_refl _)
theorem lay_dC {c : List (List Str)} (h : ∀ ws ∈ c, ∀ x ∈ ws, Wd x) : (dC c).canLay0 = true := canLayAll_map fun ws hw => lay_dW (h ws hw)
theorem dep_dC (c : List (List Str)) : (dC c).depth ≤ 2 := Nat.succ_le_succ (depthAll_map (k := 1) fun ws _ => dep_dW ws)
abbrev dP (p : Str × List Str) : PyData := .tuple [.str p.1, dW p.2]
theorem lay_dP {p : Str × List Str} (h1 : Wd p.1) (h : ∀ x ∈ p.2, Wd x) : (dP p).canLay0 = true := by
  show (PyData.strOk p.1 && ((dW p.2).canLay0 && true)) = true
  rw [h1.2.ok, lay_dW h]
  rfl
theorem dep_dP (p : Str × List Str) : (dP p).depth ≤ 2 := by
  show max 0 (max (dW p.2).depth 0) + 1 ≤ 2
  have := dep_dW p.2
  omega
theorem eqv_nil_l (ds : List PyData) : PyData.eqv (.list ds) (.list []) = ds.isEmpty := by
  cases ds <;> rfl
theorem eqv_nil_t (ds : List PyData) : PyData.eqv (.tuple ds) (.tuple []) = ds.isEmpty := by
  cases ds <;> rfl
end Sg

namespace Sg
open PySem PySem.Spec PyProof.Rows L2
/-! ### defs that are called where no repr is at work -/
structure FnG (P : Program) (w : World) (K : PySem.W.Frag) (mg : Str → Option Value) (base : Heap) (k : Nat) (f : Addr) (fd : FuncData) (ps : List Str) (sp : Sp) : Prop where
  size : ∀ vs H Q E, sp vs H Q E → vs.length = ps.length
  goes : ∀ (B : Around) (fr : List Env) (z : Shared) (H : Hp) (as : Args) (us : List Value) (vs : List V) (Q : VK) (E : XK), B.guards = some [] → Room k B → Env0 P w K mg base B fr z H → BindsTo z fd as (ps.zip us) → Vals vs us → sp vs H Q E →
    codeAny (model P w) B (.call (.ref f) as) (CR CX0 fr P w H z Q E) z
theorem ofOk {P : Program} {w : World} {K : PySem.W.Frag} {mg : Str → Option Value} {base : Heap} {k : Nat} {f : Addr} {fd : FuncData} {ps : List Str} {sp : Sp} (F : FnOk P w K mg base CX0 k f fd ps sp) : FnG P w K mg base k f fd ps sp :=
  ⟨F.len, fun B fr z H as us vs Q E _ => F.run B fr z H as us vs Q E⟩
theorem FnG.less {P : Program} {w : World} {K : PySem.W.Frag} {mg : Str → Option Value} {base : Heap} {j k : Nat} {f : Addr} {fd : FuncData} {ps : List Str} {sp : Sp} (F : FnG P w K mg base j f fd ps sp) (h : j ≤ k) : FnG P w K mg base k f fd ps sp :=
  ⟨F.size, fun B fr z H as us vs Q E hg hr => F.goes B fr z H as us vs Q E hg (hr.mono h)⟩
section
variable {X : Cx} {k : Nat} {f : Addr} {fd : FuncData} {ps : List Str} {sp : Sp} {x : Str} {p pos : Pos} {e : Expr} {es : List Expr} {t : TA}
/-- f(e, ..), f such a def without defaults -/
theorem pe_callG (F : FnG X.prog X.w X.K X.mg X.base k f fd ps sp) (hgd : X.A.guards = some []) (hr : Room k X.A) (hg : Gl X x) (hm : X.mg x = some (.ref f)) (hk : PySem.W.keepIn X.K (.ref f) = true) (hb : Binds X.K fd ps []) (ha : PA X (e :: es) t)
    (hdb : (x == ("__debug__" : Str)) = false := by decide) (he : starEach (e :: es) X.env = (false, eval e X.env) :: starEach es X.env := by rfl) (hpl : (backTo pos (starEach es X.env)).any (·.1) = false := by rfl) :
    PE X (.Call (.Name x p) (e :: es) [] pos) (tCall sp [] E0 t) := by
  refine ⟨fun pins z σ H Q I hw => wpAny_Call_Name_kw (ld_glob I hg hm ?_ hdb)⟩
  refine PySem.W.callWith_K (h₀ := X.base) I.ok.mod.kin hk ?_ he hpl
  refine thn (ha.run pos pins z σ H _ I hw) fun us z1 h1 => ?_
  obtain ⟨vs, H1, I1, rv, hs⟩ := h1
  have rv2 : Vals (vs ++ []) (us ++ []) := rv.append .nil
  have hl : (us ++ []).length = ps.length := by
    rw [← rv2.length]
    exact F.size _ _ _ _ hs
  refine ⟨I1.kIn, wpAny_call (codeAny_mono (F.goes X.A X.stack z1 H1 ⟨us, []⟩ _ _ Q E0 hgd hr I1.env0 (hb z1 us I1.kIn hl) rv2 hs) fun r z2 hq => ?_)⟩
  match r, hq with
  | .error _, hq => exact (pass0 (X := X) pins σ H1 z1 _ z2 I1 hq)
  | .ok (.ret _), hq => exact I1.after hq
/-- repr of data -/
def rReprD (K : PySem.W.Frag) : List V → Hp → VK → Prop := fun xs H Q => ∃ (a : Addr) (d : PyData), xs = [.ref a] ∧ Dp K H (.ref a) d ∧ d.showable = true ∧ d.hasDict = false ∧ d.depth ≤ 60 ∧ d.shown.length ≤ sizeLine ∧ Q (.str d.shown) H
theorem call_reprD (hgd : X.A.guards = some []) (hu : X.A.units + 65 < cLine) : CallR X (.builtin "repr") (rReprD X.K) := by
  intro pins z σ H xs us Q I r h
  obtain ⟨a, d, rfl, hd, hs, hn, hdep, hl, q⟩ := h
  obtain ⟨u, rfl, ru⟩ := vals1 r
  cases ru
  obtain ⟨as, rd⟩ := Dp.reads I d (.ref a) (.ref a) hd rfl
  exact PySem.repr_of_reads' rd hs (fun e => by rw [hn] at e; cases e) hgd (by omega) (fun _ _ e => e) (fun h' u tk hk => ⟨.str d.shown, H, I.kept (t' := tk) hk, ⟨_, rfl⟩, q⟩) hl
end
section
variable {P : Program} {w : World} {K : PySem.W.Frag} {mg : Str → Option Value} {base : Heap}
/-- such a def by its body -/
theorem okG {x : Str} {st : Stmt} {f : Addr} {fd : FuncData} {N ps : List Str} {k : Nat} {sp : Sp} (F : Fun K x x st f fd) (S : FnScope N ps (defScope st)) (hlen : ∀ vs H Q E, sp vs H Q E → vs.length = ps.length)
    (hbody : ∀ (cdv : Value) (B : Around) (fr : List Env) (z : Shared) (H : Hp) (vs : List V) (Q : VK) (E : XK), (B.deeper (envOfC x (defScope st) z.heap.objs.size f cdv)).guards = some [] → Room k (B.deeper (envOfC x (defScope st) z.heap.objs.size f cdv)) → sp vs H Q E →
      ∃ t, PSs (cxOf CX0 P w K mg base N x (defScope st) f cdv B fr z H E).nox (defBody st) t ∧ t { nx := fun _ H' => Q .non H', rt := Q } (start N vs) H) : FnG P w K mg base (k + 1) f fd ps sp := by
  obtain ⟨oc, od, kV, doc, pm, an, cdv, ct, osl, rfl, lk, hcd⟩ := F.ex
  refine ⟨hlen, fun B fr z H as us vs Q E hgd hr e0 hb rv hsp => ?_⟩
  have old : ∀ b o, base.get? b = some o → z.heap.get? b = some o := fun b o e => (e0.bs b o e).1
  have kin : K.In z.heap := e0.mod.kin.keeps old
  have hkd : ∀ y ∈ ps.zip us, (defScope st).names.lookup y.1 = some .local ∨ ((defScope st).names.lookup y.1 = some .cell ∧ ((cellsFrom (z.heap.objs.size + 1) (defScope st).names []).lookup y.1).isSome = true) := by
    rintro ⟨nm, u⟩ hy
    exact (S.par nm (List.of_mem_zip hy).1).imp id fun e => ⟨e, PySem.W.cellsFrom_some _ _ _ (.inl e)⟩
  have enter := fun (env : Env) (z1 : Shared) => True
  refine codeAny_call_function hr.depth (kin _ _ lk) rfl S.co S.gen rfl (PySem.W.codeRec_of kin hcd) (hb _ _ _ _ (wpAny_newFunctionEnv_cells S.kind hkd fun env he z1 x1 => ?_))
  subst he
  obtain ⟨tt, ht, hq⟩ := hbody cdv B fr z H vs Q E hgd (hr.deeper _) hsp
  have I0 := inv_start (CX := CX0) (E := E) S hr.hd e0 (hlen _ _ _ _ hsp) rv x1
  refine ⟨(e0.mod.nolimit.keeps old).keeps x1.toInCall.keep, codeAny_func (wpAny_mono (ht.nox.run [] z1 (start N vs) H _ I0 hq) (fun fl z2 hz => ?_) fun _ _ hz => hz)⟩
  match fl, hz with
  | .ret u, ⟨v, _, H', J, ru, hQ⟩ => exact ⟨v, H', J.os, J.bare, J.base, J.hok, ru, hQ⟩
  | .next, ⟨_, H', J, hQ⟩ => exact ⟨.non, H', J.os, J.bare, J.base, J.hok, rfl, hQ⟩
  | .brk, ⟨_, _, _, hQ⟩ => exact hQ.elim
  | .cont, ⟨_, _, _, hQ⟩ => exact hQ.elim
end
/-! ### the law's own call -/
section
variable {P : Program} {w : World} {K : PySem.W.Frag} {mg mb : Str → Option Value} {k : Nat} {fa a : Addr} {fd : FuncData} {x : Str} {sp : Sp} {z : Shared} {vs : List Value} {ns : List Int}
/-- what stands around the law's call: nothing but the script may be tracked -/
theorem env_top {G : Hp} (KX : K.In z.heap) (n1 : z.heap.Ns mainGlobals mg) (n2 : z.heap.Ns builtinsNs mb) (n3 : ∀ x : Str, x ≠ "__name__" → mb x = bootBuiltins x) (n4 : z.heap.NoLimit) (n5 : z.gens = #[])
    (ha : z.heap.get? a = some { cls := .type "list", data := .seq vs.toArray }) (ok : HOk P w G z.heap) (only : ∀ b, G b ≠ none → b = a) (hk : G a ≠ none → K.lookup a = none) :
    K.In (hidT z.heap G) ∧ (hidT z.heap G).Ns mainGlobals mg ∧ Env0 P w K mg (hidT z.heap G) callerA [] z G := by
  have free : ∀ {b : Addr}, b ≠ a → G b = none := fun {b} h => Classical.byContradiction fun h2 => h (only b h2)
  have dicts : ∀ {b : Addr} {m : Str → Option Value}, z.heap.Ns b m → (hidT z.heap G).Ns b m := by
    rintro b m ⟨o, es, ep, h1, h2, h3⟩
    refine ⟨o, es, ep, hidT_get h1 (free fun e => ?_), h2, h3⟩
    subst e
    rw [ha] at h1
    cases h1
    cases h2
  have kin : K.In (hidT z.heap G) := by
    intro b o e
    by_cases h : b = a
    · subst h
      refine hidT_get (KX b o e) (Classical.byContradiction fun h2 => ?_)
      rw [hk h2] at e
      cases e
    · exact hidT_get (KX b o e) (free h)
  obtain ⟨mc, c1, c2⟩ := n4
  refine ⟨kin, dicts n1, ?_⟩
  exact { frames := rfl, mod := ⟨kin, dicts n1, ⟨mb, dicts n2, n3⟩, ⟨mc, dicts c1, c2⟩⟩, bs := fun b o e => of_hidT e, bsz := Nat.le_of_eq (hidT_size _ _), funs := trivial, frf := fun b hb => (List.not_mem_nil hb).elim, hok := ok, bare := .of_eq n5 }
theorem top_call {G : Hp} (KX : K.In z.heap) (n1 : z.heap.Ns mainGlobals mg) (n2 : z.heap.Ns builtinsNs mb) (n3 : ∀ x : Str, x ≠ "__name__" → mb x = bootBuiltins x) (n4 : z.heap.NoLimit) (n5 : z.gens = #[])
    (ha : z.heap.get? a = some { cls := .type "list", data := .seq vs.toArray }) (hr : Room k callerA) (F : ∀ base : Heap, K.In base → base.Ns mainGlobals mg → FnG P w K mg base k fa fd [x] sp) (hbind : ∀ (s : Shared) (u : Value), BindsTo s fd ⟨[u], []⟩ [(x, u)])
    (ok : HOk P w G z.heap) (only : ∀ b, G b ≠ none → b = a) (hk : G a ≠ none → K.lookup a = none) (hO : Only G) (hs : sp [.ref a] G (fun v _ => v = .bl true) E0) :
    codeAny (model P w) callerA (.call (.ref fa) ⟨[.ref a], []⟩) (fun r z' => r = .ok (.ret (.bool true)) ∧ OldK z.heap z'.heap ∧ z'.os = z.os ∧ AllBare z'.gens) z := by
  obtain ⟨kin, dn, e0⟩ := env_top KX n1 n2 n3 n4 n5 ha ok only hk
  refine codeAny_mono ((F _ kin dn).goes callerA [] z G ⟨[.ref a], []⟩ [.ref a] [.ref a] _ E0 rfl hr e0 (hbind z (.ref a)) (.cons rfl .nil) hs) fun r z' h => ?_
  match r, h with
  | .ok (.ret u), ⟨v, G', os, bare, un, ok', ru, hv⟩ =>
    have hv : v = .bl true := hv
    subst hv
    cases ru
    refine ⟨rfl, OldK.of_keep fun b o e => ?_, os, bare⟩
    rcases hO b with none_ | ⟨ob, ys, fz⟩
    · exact un.keep b o e none_ (fun q => (List.not_mem_nil (show b ∈ ([] : List Addr) from q)).elim) (by simp)
    · have f2 := un.frzs b ob _ fz
      have h1 := (ok b _ fz).1
      have h2 := (ok' b _ f2).1
      rw [e] at h1
      cases h1
      exact h2
end
/-- the end of a law whose own call stands where no repr is at work -/
theorem walk_G {l : PySem.W.OpenLaw} {n k : Nat} {q : Program} {loose : List Str} {XP : (Str → Option Value) → Heap → Prop} {YP : World → Heap → Prop} {d : DefRec} {K : Params → PySem.W.Frag} {sp : World → Sp} {x : Str}
    (hn : l.most = some n) (hn2 : n ≤ sizeLine) (hdf : d.params.defaults = []) (hr : Room k callerA) (hY : ∀ (w : World) (h : Heap), YP w h → (K w.params).In h)
    (F : ∀ (w : World) (mg : Str → Option Value) (fa : Addr) (h : Heap), (K w.params).In h → h.Ns mainGlobals mg → mg d.name = some (.ref fa) →
      ∃ fd : FuncData, (∀ (s : Shared) (u : Value), BindsTo s fd ⟨[u], []⟩ [(x, u)]) ∧ ∀ base : Heap, (K w.params).In base → base.Ns mainGlobals mg → FnG l.prog w (K w.params) mg base k fa fd [x] (sp w))
    (hsp : ∀ (w : World) (G : Hp) (a : Addr) (ns : List Int), ns.length ≤ n → SqL (K w.params) G a (ns.map V.int) → sp w [.ref a] G (fun v _ => v = .bl true) E0) :
    PySem.W.WalkO q loose XP YP l.row.toRowW d [] (fun f vs => PySem.call f vs) := by
  refine Att.attach_call hn hdf fun w z0 z mg mb fa o pm cd doc a vs ns G0 Y ho hd hcd hmg hobj hints hlen hgens => ?_
  have kin := hY w _ Y
  obtain ⟨fd, hb, hF⟩ := F w mg fa _ kin G0.T.g hmg
  have rv := vals_ints hints
  have hsz : vs.toArray.size ≤ sizeLine := by
    rw [List.size_toArray, hints.length]
    exact Nat.le_trans hlen hn2
  cases hk : (K w.params).lookup a with
  | some ob =>
    have e := kin a ob hk
    rw [hobj] at e
    cases e
    exact top_call (G := fun _ => none) kin G0.T.g G0.T.b G0.T.builtins G0.T.nolimit hgens hobj hr hF hb (fun b u e => by cases e) (fun b h => absurd rfl h) (fun h => absurd rfl h) (fun _ => .inl rfl) (hsp w _ a ns hlen (.inr ⟨_, vs.toArray, _, hk, rfl, rfl, rfl, hsz, by simpa using rv⟩))
  | none =>
    have at_a : ∀ b, (fun b => if b = a then some (HO.frz { cls := .type "list", data := .seq vs.toArray } (.lst (ns.map V.int))) else none : Hp) b ≠ none → b = a := fun b h => Classical.byContradiction fun h2 => h (if_neg h2)
    refine top_call (G := fun b => if b = a then some (.frz { cls := .type "list", data := .seq vs.toArray } (.lst (ns.map V.int))) else none) kin G0.T.g G0.T.b G0.T.builtins G0.T.nolimit hgens hobj hr hF hb (fun b u e => ?_) at_a (fun _ => hk) (fun b => ?_) (hsp w _ a ns hlen (.inl (.inr ⟨_, if_pos rfl⟩)))
    · have hb : b = a := at_a b (by rw [e]; simp)
      subst hb
      have e2 := (if_pos rfl).symm.trans e
      cases e2
      exact ⟨hobj, by rw [List.length_map]; exact Nat.le_trans hlen hn2, vs, _, rv, hobj⟩
    · by_cases hb : b = a
      · exact .inr ⟨_, _, if_pos hb⟩
      · exact .inl (if_neg hb)
end Sg

namespace Sg
open PySem PySem.Spec PyProof.Rows L2
/-! ### sorted() of tuples of texts -/
def leW (a b : List Str) : Bool := PySem.W.dataLe false dW a b
def rSortedW (K : PySem.W.Frag) : List V → Hp → VK → Prop := fun xs H Q => ∃ (a : Addr) (bs : List (V × List Str)) (n : Nat), xs = [.ref a] ∧ SqL K H a (bs.map (·.1)) ∧ (∀ b ∈ bs, Dp K H b.1 (dW b.2) ∧ b.2.length = n + 1) ∧ bs.length ≤ sizeLine ∧
  ∀ p, H p = none → Q (.ref p) (upd H p (.lst ((bs.mergeSort fun x y => leW x.2 y.2).map (·.1))))
theorem alike_strs : ∀ xs ys : List Str, PySem.W.alikeAll (xs.map .str) (ys.map .str) = true
  | [], _ => rfl
  | _ :: _, [] => rfl
  | x :: xs, y :: ys => by
    show (PySem.W.alike (.str x) (.str y) && PySem.W.alikeAll (xs.map .str) (ys.map .str)) = true
    rw [alike_strs xs ys]
    rfl
theorem each_rel : ∀ {bs : List (V × List Str)} {its : List Value}, Vals (bs.map (·.1)) its → PySem.W.EachIs (fun v b => RelV b.1 v) its bs
  | [], _, h => by
    cases h
    exact .nil
  | b :: r, _, h => by
    cases h with
    | cons h1 h2 => exact .cons h1 (each_rel h2)
theorem vals_rel : ∀ {bs : List (V × List Str)} {its : List Value}, PySem.W.EachIs (fun v b => RelV b.1 v) its bs → Vals (bs.map (·.1)) its
  | _, _, .nil => .nil
  | _, _, .cons h1 h2 => .cons h1 (vals_rel h2)
theorem each_reads {X : Cx} {pins : List (Addr × Obj)} {σ : L2.St} {H : Hp} {z : Shared} (I : Inv X pins σ H z) : ∀ {bs : List (V × List Str)} {its : List Value}, (∀ b ∈ bs, Dp X.K H b.1 (dW b.2)) → Vals (bs.map (·.1)) its → PySem.W.EachIs (fun v b => ∃ as, Reads z.heap v (dW b.2) as) its bs
  | [], _, _, h => by
    cases h
    exact .nil
  | b :: r, _, hb, h => by
    cases h with
    | cons h1 h2 => exact .cons (Dp.reads I _ _ _ (hb b (List.mem_cons_self ..)) h1) (each_reads I (fun c hc => hb c (List.mem_cons_of_mem _ hc)) h2)
theorem cr_sortedW {X : Cx} (hu : X.A.units + 65 < cLine) : CallR X (.builtin "sorted") (rSortedW X.K) := by
  intro pins z σ H xs us Q I r h
  obtain ⟨a, bs, n, rfl, hs, hb, hl, q⟩ := h
  obtain ⟨its, rv, hli, _⟩ := I.list hs
  rw [Vals.ref1 r]
  refine PySem.W.sorted_data (R := fun v (b : V × List Str) => RelV b.1 v) (enc := fun b => dW b.2) hli.isList (each_rel rv) (each_reads I (fun b h => (hb b h).1) rv) ?_ (.inl ?_) hl ?_ fun out hlen hout => ?_
  · intro d hd d' hd'
    obtain ⟨b, _, rfl⟩ := List.mem_map.mp hd
    obtain ⟨b', _, rfl⟩ := List.mem_map.mp hd'
    exact alike_strs b.2 b'.2
  · intro d hd
    obtain ⟨b, hb', rfl⟩ := List.mem_map.mp hd
    have h1 := (hb b hb').2
    cases e : b.2 with
    | nil => rw [e] at h1; simp at h1
    | cons y ys => exact ⟨.str y, ys.map .str, rfl⟩
  · intro b _
    have := dep_dW b.2
    show X.A.units + 2 + (dW b.2).depth < cLine
    omega
  · have hout : PySem.W.EachIs (fun v (b : V × List Str) => RelV b.1 v) out (bs.mergeSort fun x y => leW x.2 y.2) := hout
    obtain ⟨ep, he⟩ := PyProof.Rows.sortedAll_at z.heap its out.toArray
    refine ⟨.ref _, upd H (z.heap.objs.size + 1) (.lst ((bs.mergeSort fun x y => leW x.2 y.2).map (·.1))), I.laid (t' := z.toks) (fun _ _ => PyProof.Rows.sortedAll_old) (Nat.le_succ _) ⟨?_, out, ep, vals_rel hout, he⟩, rfl, q _ (I.hok.fresh (Nat.le_succ _))⟩
    rw [List.length_map, List.length_mergeSort]
    exact hl
end Sg

namespace Sg
open PySem PySem.Spec PyProof.Rows L2
def topS (i : Nat) : Stmt := PySem.Challenge.pw_sheafbooks_k30_what_is_left.main.body.getD i (.Pass ⟨0, 0, 0, 0⟩)
abbrev sTape : Stmt := topS 7
abbrev sDraw : Stmt := topS 8
theorem scTape : FnScope ["_law_script", "_law_k", "_law_cell"] ["_law_script", "_law_k"] (defScope sTape) := ⟨rfl, rfl, rfl, by decide +kernel, rfl, by decide +kernel, by decide +kernel⟩
theorem scDraw : FnScope ["_law_tape_here", "_law_many", "_law_found", "_law_once", "_law_twice", "_law_wide"] ["_law_tape_here", "_law_many"] (defScope sDraw) := ⟨rfl, rfl, rfl, by decide +kernel, rfl, by decide +kernel, by decide +kernel⟩
/-- a tape: three numbers, at most n draws done -/
def TapeAt (H : Hp) (t : Addr) (n : Nat) : Prop := ∃ a b c : Int, H t = some (.lst [.int a, .int b, .int c]) ∧ 0 ≤ b ∧ b < 2 ^ 62 ∧ 0 ≤ c ∧ c ≤ n
theorem TapeAt.mono {H : Hp} {t : Addr} {n m : Nat} (h : TapeAt H t n) (l : n ≤ m) : TapeAt H t m := by
  obtain ⟨a, b, c, e, h1, h2, h3, h4⟩ := h
  exact ⟨a, b, c, e, h1, h2, h3, by omega⟩
theorem TapeAt.keepT {H H' : Hp} {t : Addr} {n : Nat} (h : TapeAt H t n) (e : Ex t H H') : KeepT H H' := by
  obtain ⟨a, b, c, h, _⟩ := h
  exact e.keepT h
theorem TapeAt.ne_tup {H : Hp} {t p : Addr} {n : Nat} {xs : List V} (h : TapeAt H t n) (e : H p = some (.tup xs)) : p ≠ t := by
  obtain ⟨a, b, c, h, _⟩ := h
  intro q
  subst q
  rw [h] at e
  cases e
theorem TapeAt.ne_none {H : Hp} {t p : Addr} {n : Nat} (h : TapeAt H t n) (e : H p = none) : p ≠ t := by
  obtain ⟨a, b, c, h, _⟩ := h
  intro q
  subst q
  rw [h] at e
  cases e
theorem TapeAt.same {H H' : Hp} {t : Addr} {n : Nat} (h : TapeAt H t n) (e : Same H H') : TapeAt H' t n := by
  obtain ⟨a, b, c, h, r⟩ := h
  exact ⟨a, b, c, e _ _ h, r⟩
theorem TapeAt.upd {H : Hp} {t p : Addr} {n : Nat} {o : HO} (h : TapeAt H t n) (e : p ≠ t) : TapeAt (L2.upd H p o) t n := by
  obtain ⟨a, b, c, h, r⟩ := h
  exact ⟨a, b, c, by rw [upd_ne (Ne.symm e)]; exact h, r⟩
def spDraw : Sp := fun vs H Q _ => ∃ (t : Addr) (m : Int) (n : Nat), vs = [.ref t, .int m] ∧ 1 ≤ m ∧ m ≤ 1000 ∧ TapeAt H t n ∧ n ≤ 1000000 ∧
  ∀ (r : Int) (H' : Hp), Ex t H H' → TapeAt H' t (n + 1) → 0 ≤ r → r < m → Q (.int r) H'
theorem mod_lt {i j : Int} (h : 0 < j) : 0 ≤ i % j ∧ i % j < j := ⟨Int.emod_nonneg _ (by omega), Int.emod_lt_of_pos _ h⟩
section
variable {P : Program} {w : World} {K : PySem.W.Frag} {mg : Str → Option Value} {base : Heap}
theorem ok_draw {f : Addr} {fd : FuncData} {k : Nat} (F : Fun K "_law_draw" "_law_draw" sDraw f fd) : FnOk P w K mg base CX0 (k + 1) f fd ["_law_tape_here", "_law_many"] spDraw := by
  refine F.ok scDraw (fun vs H Q E h => ?_) (fun cdv A outer s H vs Q E hr h => ?_)
  · obtain ⟨t, m, n, rfl, _⟩ := h
    rfl
  · obtain ⟨t, m, n, rfl, hm1, hm2, hT, hn, q⟩ := h
    refine ⟨_, pss_cons (ps_if (pt_cmpR op_gt (pe_ix ix_list (pv 0) pe_int (fun _ _ => rfl)) pe_int (nomark _))
        (pss_cons (ps_set (i := 2) scDraw.nd rfl (.inl rfl) (pe_op op_mod (pe_ix ix_list (pv 0) pe_int (fun _ _ => rfl)) (pv 1)))
        (pss_cons (ps_asg (pe_op op_fdiv (pe_ix ix_list (pv 0) pe_int (fun _ _ => rfl)) (pv 1)) (pg_sub (pv 0) pe_int set_list))
        (pss_one (ps_ret (pv 2))))) pss_nil)
      (pss_cons (ps_asg (pe_op op_add (pe_ix ix_list (pv 0) pe_int (fun _ _ => rfl)) pe_int) (pg_sub (pv 0) pe_int set_list))
      (pss_cons (ps_set (i := 3) scDraw.nd rfl (.inl rfl) (pe_op op_mod (pe_op op_pow (pe_op op_add (pe_ix ix_list (pv 0) pe_int (fun _ _ => rfl)) (pe_op op_mul pe_int (pe_ix ix_list (pv 0) pe_int (fun _ _ => rfl)))) pe_int) pe_int))
      (pss_cons (ps_set (i := 4) scDraw.nd rfl (.inl rfl) (pe_op op_mod (pe_op op_mul (pe_op op_add (pv 3) (pe_ix ix_list (pv 0) pe_int (fun _ _ => rfl))) (pe_op op_add (pe_op op_add (pe_op op_mod (pv 3) pe_int) pe_int) (pe_ix ix_list (pv 0) pe_int (fun _ _ => rfl)))) pe_int))
      (pss_cons (ps_set (i := 5) scDraw.nd rfl (.inl rfl) (pe_op op_mod (pe_op op_add (pe_op op_add (pe_op op_fdivW (pe_ix ix_list (pv 0) pe_int (fun _ _ => rfl)) pe_int) (pe_op op_mul (pv 4) pe_int)) (pe_ix ix_list (pv 0) pe_int (fun _ _ => rfl))) pe_int))
      (pss_one (ps_ret (pe_op op_mod (pe_op op_fdiv (pe_op op_mod (pe_op op_add (pe_op op_add (pe_op op_mul (pv 4) pe_int) (pe_op op_mul (pv 5) pe_int)) (pv 3)) pe_int) pe_int) (pv 1)))))))), ?_⟩
    obtain ⟨a, b, c, e, hb0, hb1, hc0, hc1⟩ := hT
    refine ⟨.ref t, rfl, t, _, 0, .int a, rfl, rfl, SqL.of e, rfl, a, 0, rfl, rfl, _, rfl, ite2 (fun ha => ?_) (fun ha => ?_)⟩
    · refine ⟨.ref t, rfl, t, _, 0, .int a, rfl, rfl, SqL.of e, rfl, .int m, rfl, a, m, rfl, rfl, by omega, ?_⟩
      refine ⟨.ref t, rfl, t, _, 0, .int a, rfl, rfl, SqL.of e, rfl, .int m, rfl, a, m, rfl, rfl, ⟨by omega, by omega⟩, ?_⟩
      refine ⟨.ref t, rfl, t, _, 0, 0, rfl, rfl, e, rfl, ?_⟩
      refine ⟨_, rfl, ?_⟩
      exact q _ _ (Ex.upd (Ex.refl t H)) ⟨_, _, _, upd_same, hb0, hb1, hc0, by omega⟩ (mod_lt (by omega)).1 (mod_lt (by omega)).2
    · refine ⟨.ref t, rfl, t, _, 2, .int c, rfl, rfl, SqL.of e, rfl, c, 1, rfl, rfl, ?_⟩
      refine ⟨.ref t, rfl, t, _, 2, 2, rfl, rfl, e, rfl, ?_⟩
      have e1 : upd H t (.lst [.int a, .int b, .int (c + 1)]) t = some (.lst [.int a, .int b, .int (c + 1)]) := upd_same
      refine ⟨.ref t, rfl, t, _, 1, .int b, rfl, rfl, SqL.of e1, rfl, .ref t, rfl, t, _, 2, .int (c + 1), rfl, rfl, SqL.of e1, rfl, 39373, c + 1, rfl, rfl, .inl ⟨by decide, by decide⟩, b, _, rfl, rfl, _, 5, rfl, rfl, ⟨by decide, by decide, ?_⟩, _, 2147483647, rfl, rfl, (by decide : (0 : Int) < 2147483647), ?_⟩
      · show (b + 39373 * (c + 1)).natAbs < 2 ^ 64
        omega
      dsimp only
      generalize hx : (b + 39373 * (c + 1)) ^ (5 : Int).toNat % 2147483647 = x
      have hx1 := mod_lt (i := (b + 39373 * (c + 1)) ^ (5 : Int).toNat) (j := 2147483647) (by decide)
      rw [hx] at hx1
      refine ⟨.int x, rfl, .ref t, rfl, t, _, 2, .int (c + 1), rfl, rfl, SqL.of e1, rfl, x, c + 1, rfl, rfl, .int x, rfl, x, 40009, rfl, rfl, (by decide : (0 : Int) < 40009), _, 7, rfl, rfl, .ref t, rfl, t, _, 2, .int (c + 1), rfl, rfl, SqL.of e1, rfl, _, c + 1, rfl, rfl, _, _, rfl, rfl, .inl ⟨by omega, by omega⟩, _, 2147483629, rfl, rfl, (by decide : (0 : Int) < 2147483629), ?_⟩
      dsimp only
      generalize hy : (x + (c + 1)) * (x % 40009 + 7 + (c + 1)) % 2147483629 = y
      have hy1 := mod_lt (i := (x + (c + 1)) * (x % 40009 + 7 + (c + 1))) (j := 2147483629) (by decide)
      rw [hy] at hy1
      refine ⟨.ref t, rfl, t, _, 1, .int b, rfl, rfl, SqL.of e1, rfl, b, 2147483647, rfl, rfl, wide_div (b := 64) (by decide) (by decide) (by decide) (by decide), .int y, rfl, y, 40009, rfl, rfl, .inl ⟨by omega, by omega⟩, _, _, rfl, rfl, .ref t, rfl, t, _, 2, .int (c + 1), rfl, rfl, SqL.of e1, rfl, _, c + 1, rfl, rfl, _, 2305843009213693951, rfl, rfl, (by decide : (0 : Int) < 2305843009213693951), ?_⟩
      dsimp only
      generalize hz : (b / 2147483647 + y * 40009 + (c + 1)) % 2305843009213693951 = z
      have hz1 := mod_lt (i := (b / 2147483647 + y * 40009 + (c + 1))) (j := 2305843009213693951) (by decide)
      rw [hz] at hz1
      refine ⟨.int y, rfl, y, 48271, rfl, rfl, .inl ⟨by omega, by omega⟩, .int z, rfl, z, 39373, rfl, rfl, .inl ⟨by omega, by omega⟩, _, _, rfl, rfl, .int x, rfl, _, x, rfl, rfl, _, 2305843009213693921, rfl, rfl, (by decide : (0 : Int) < 2305843009213693921), _, 64, rfl, rfl, ⟨by decide, by decide⟩, .int m, rfl, _, m, rfl, rfl, by omega, ?_⟩
      exact q _ _ (Ex.upd (Ex.refl t H)) ⟨_, _, _, upd_same, hb0, hb1, by omega, by omega⟩ (mod_lt (by omega)).1 (mod_lt (by omega)).2
end
end Sg

namespace Sg
open PySem PySem.Spec PyProof.Rows L2
abbrev sFolded : Stmt := topS 9
theorem scFolded : FnScope ["_law_script", "_law_many", "_law_cells", "_law_k", "_law_cell"] ["_law_script", "_law_many"] (defScope sFolded) := ⟨rfl, rfl, rfl, by decide +kernel, rfl, by decide +kernel, by decide +kernel⟩
section
variable {P : Program} {w : World} {K : PySem.W.Frag} {mg : Str → Option Value} {base : Heap}
theorem b01 (b : Bool) : -(2 ^ 64) < (if b = true then (1 : Int) else 0) ∧ (if b = true then (1 : Int) else 0) < 2 ^ 64 := by
  cases b <;> decide
def spTape (K : PySem.W.Frag) : Sp := fun vs H Q _ => ∃ (a : Addr) (k : Nat) (ns : List Int), vs = [.ref a, .int (k : Int)] ∧ SqL K H a (ns.map V.int) ∧ k ≤ 1000 ∧
  ∀ (t : Addr) (H' : Hp), Same H H' → H t = none → TapeAt H' t 0 → Q (.ref t) H'
theorem ok_tape {f : Addr} {fd : FuncData} {k : Nat} (F : Fun K "_law_tape" "_law_tape" sTape f fd) (ml : mg "len" = none) (ma : mg "abs" = none) (mi : mg "int" = none) : FnOk P w K mg base CX0 (k + 1) f fd ["_law_script", "_law_k"] (spTape K) := by
  refine F.ok scTape (fun vs H Q E h => ?_) (fun cdv A outer s H vs Q E hr h => ?_)
  · obtain ⟨a, k, ns, rfl, _⟩ := h
    rfl
  · obtain ⟨a, j, ns, rfl, hS, hj1, q⟩ := h
    refine ⟨_, pss_cons (ps_set (i := 2) scTape.nd rfl (.inl rfl) (pe_ifExp (pt_cmpR op_lt (pv 1) (pe_callB call_len_seq (by rfl) ml PySem.boot_len (pa_cons (pv 0) pa_nil)) (nomark _)) (pe_ix ix_list (pv 0) (pv 1) (fun _ _ => rfl)) pe_int))
      (pss_one (ps_ret (pe_lst (pa_cons (pe_op op_mul (pe_callB call_abs (by rfl) ma (by decide +kernel) (pa_cons (pv 2) pa_nil)) (pe_callTy call_int1 (by rfl) mi (by decide +kernel) (pa_cons (pe_cmpR op_ge (pe_callB call_abs (by rfl) ma (by decide +kernel) (pa_cons (pv 2) pa_nil)) (pe_op op_pow pe_int pe_int) (nomark _)) pa_nil)))
        (pa_cons (pe_op op_add (pe_op op_add (pe_op op_mod (pv 2) pe_int) (pe_op op_mul pe_int (pv 1))) pe_int) (pa_cons pe_int pa_nil)))))), ?_⟩
    refine ⟨.int j, rfl, .ref a, rfl, a, _, rfl, .inl hS, j, _, rfl, rfl, _, rfl, ite2 (fun hc => ?_) (fun hc => ?_)⟩
    · have hc' : (j : Int) < ((ns.map V.int).length : Int) := of_decide_eq_true hc
      rw [List.length_map] at hc'
      have hj : j < ns.length := by omega
      have g : atI (ns.map V.int) (j : Int) = some (.int ns[j]) := atI_nat (by rw [List.getElem?_map, List.getElem?_eq_getElem hj]; rfl)
      refine ⟨.ref a, rfl, .int j, rfl, a, _, j, .int ns[j], rfl, rfl, hS, g, ?_⟩
      refine ⟨_, rfl, _, rfl, _, rfl, _, rfl, 10, 18, rfl, rfl, ⟨by decide, by decide, by decide⟩, _, _, rfl, rfl, .inr ⟨_, rfl, _, _, rfl, rfl, .inr ⟨?_, ?_⟩, ?_⟩⟩
      · exact (b01 _).1
      · exact (b01 _).2
      refine ⟨_, rfl, _, 2305843009213693951, rfl, rfl, (by decide : (0 : Int) < 2305843009213693951), .int j, rfl, 39373, j, rfl, rfl, .inl ⟨by decide, by decide⟩, _, _, rfl, rfl, _, _, rfl, rfl, (by show 3 ≤ sizeLine; decide), fun t nt => ?_⟩
      have hm := mod_lt (i := ns[j]) (j := 2305843009213693951) (by decide)
      exact q _ _ (same_upd nt) nt ⟨_, _, _, upd_same, by omega, by omega, by omega, by omega⟩
    · refine ⟨_, rfl, _, rfl, _, rfl, _, rfl, 10, 18, rfl, rfl, ⟨by decide, by decide, by decide⟩, _, _, rfl, rfl, .inr ⟨_, rfl, _, _, rfl, rfl, .inr ⟨?_, ?_⟩, ?_⟩⟩
      · exact (b01 _).1
      · exact (b01 _).2
      refine ⟨_, rfl, _, 2305843009213693951, rfl, rfl, (by decide : (0 : Int) < 2305843009213693951), .int j, rfl, 39373, j, rfl, rfl, .inl ⟨by decide, by decide⟩, _, _, rfl, rfl, _, _, rfl, rfl, (by show 3 ≤ sizeLine; decide), fun t nt => ?_⟩
      exact q _ _ (same_upd nt) nt ⟨_, _, _, upd_same, by omega, by omega, by omega, by omega⟩
theorem cut_len {α : Type} (xs : List α) (n : Nat) : (xs.take n).length = min n xs.length := List.length_take
def spFolded (K : PySem.W.Frag) : Sp := fun vs H Q _ => ∃ (a : Addr) (m : Nat) (ns : List Int), vs = [.ref a, .int (m : Int)] ∧ SqL K H a (ns.map V.int) ∧ 1 ≤ m ∧ m ≤ 60 ∧ ns.length ≤ 63 ∧
  ∀ (c : Addr) (H' : Hp) (ms : List Int), Same H H' → H c = none → H' c = some (.lst (ms.map V.int)) → ms.length = min m ns.length → Q (.ref c) H'
theorem cut_ints (ns : List Int) (lo hi : Option Int) : cutV (ns.map V.int) lo hi = ((ns.drop (HT.sIx ns.length 0 lo)).take (HT.sIx ns.length ns.length hi - HT.sIx ns.length 0 lo)).map V.int := by
  unfold cutV
  rw [List.length_map, ← List.map_drop, ← List.map_take]
theorem ok_folded {f : Addr} {fd : FuncData} {k : Nat} (F : Fun K "_law_folded" "_law_folded" sFolded f fd) (ml : mg "list" = none) (me : mg "enumerate" = none) : FnOk P w K mg base CX0 (k + 1) f fd ["_law_script", "_law_many"] (spFolded K) := by
  refine F.ok scFolded (fun vs H Q E h => ?_) (fun cdv A outer s H vs Q E hr h => ?_)
  · obtain ⟨a, m, ns, rfl, _⟩ := h
    rfl
  · obtain ⟨a, m, ns, rfl, hS, hm0, hm1, hn, q⟩ := h
    refine ⟨_, pss_cons (ps_set (i := 2) scFolded.nd rfl (.inl rfl) (pe_callTy call_list_of (by rfl) ml (by decide +kernel) (pa_cons (pe_slice sl_list (pv 0) po_none (po_some (pv 1))) pa_nil)))
      (pss_cons (ps_for PassesOwn.never rfl (pi_enum (by rfl) me (pa_cons (pe_slice sl_list (pv 0) (po_some (pv 1)) (po_some pe_int)) pa_nil))
          (pg_tup rfl (pgs_cons (pg_name (i := 3) scFolded.nd rfl (.inl rfl)) (pgs_cons (pg_name (i := 4) scFolded.nd rfl (.inl rfl)) pgs_nil)))
        (pss_one (ps_asg (pe_op op_add (pe_ix ix_list (pv 2) (pe_op op_mod (pv 3) (pv 1)) (fun _ _ => rfl)) (pe_op op_mul (pv 4) (pe_op op_add (pv 3) pe_int))) (pg_sub (pv 2) (pe_op op_mod (pv 3) (pv 1)) set_list))))
      (pss_one (ps_ret (pv 2)))), ?_⟩
    refine ⟨.ref a, rfl, .int (m : Int), rfl, (m : Int), rfl, a, _, rfl, hS, fun s1 n1 => ⟨s1, _, rfl, .inl (SqL.of upd_same), fun c nc => ?_⟩⟩
    have sm1 : Same H (upd H s1 (.lst (cutV (ns.map V.int) none (some (m : Int))))) := same_upd n1
    have sm2 := Same.trans sm1 (same_upd (o := .lst (cutV (ns.map V.int) none (some (m : Int)))) nc)
    refine ⟨.ref a, rfl, .int (m : Int), rfl, (m : Int), rfl, 63, rfl, a, _, rfl, Same.seq sm2 hS, fun d nd => ⟨d, _, rfl, SqL.of upd_same, ?_⟩⟩
    have sm3 := Same.trans sm2 (same_upd (o := .lst (cutV (ns.map V.int) (some (m : Int)) (some 63))) nd)
    have hcH : H c = none := sm1.free nc
    have ndc : c ≠ d := fun e => by
      subst e
      rw [upd_same] at nd
      cases nd
    have e1 : HT.sIx ns.length 0 none = 0 := rfl
    have e2 : HT.sIx ns.length ns.length (some (m : Int)) = min m ns.length := HT.sIx_nat _ _ _
    have e3 : HT.sIx ns.length 0 (some (m : Int)) = min m ns.length := HT.sIx_nat _ _ _
    have len1 : ((ns.drop 0).take (min m ns.length - 0)).length = min m ns.length := by
      rw [List.length_take, List.drop_zero]
      omega
    generalize hzs : (ns.drop (HT.sIx ns.length 0 (some (m : Int)))).take (HT.sIx ns.length ns.length (some 63) - HT.sIx ns.length 0 (some (m : Int))) = zs
    have hzl : zs.length ≤ ns.length - min m ns.length := by
      rw [← hzs, List.length_take, List.length_drop, e3]
      omega
    have hcut : cutV (ns.map V.int) (some (m : Int)) (some 63) = zs.map V.int := by rw [cut_ints, hzs]
    rw [hcut] at sm3 ⊢
    refine for_it (walk_enum (xs := zs.map V.int)) (fun i σ H3 => ∃ (y3 y4 : Option V) (ms : List Int), σ = [some (.ref a), some (.int (m : Int)), some (.ref c), y3, y4] ∧ Same H H3 ∧ H3 c = some (.lst (ms.map V.int)) ∧ ms.length = min m ns.length ∧ H3 d = some (.lst (zs.map V.int))) ?_ ?_ ?_ ?_
    · refine ⟨none, none, _, rfl, sm3, ?_, len1, upd_same⟩
      rw [upd_ne ndc, upd_same, cut_ints, e1, e2]
    · rintro i σ H3 _ ⟨y3, y4, ms, rfl, sm, hc, hl, hd⟩
      exact SqL.of hd
    · rintro i x σ H3 H4 hi ⟨y3, y4, ms, rfl, sm, hc, hl, hd⟩ ⟨T, x1, x2, rfl, nT, rfl, f1, f2⟩
      rw [List.length_map] at hi
      cases f1
      have f2 : (zs.map V.int)[i]? = some x2 := f2
      rw [List.getElem?_map, List.getElem?_eq_getElem hi] at f2
      cases f2
      have hlm : ms.length = m := by omega
      have nTc : c ≠ T := ne_of_none hc nT
      have nTd : d ≠ T := ne_of_none hd nT
      have hc' : upd H3 T (.tup [.int (i : Nat), .int zs[i]]) c = some (.lst (ms.map V.int)) := by rw [upd_ne nTc]; exact hc
      have him : i % m < ms.length := by
        rw [hlm]
        exact Nat.mod_lt _ (by omega)
      have ei : ((i : Nat) : Int) % (m : Int) = ((i % m : Nat) : Int) := by rw [Int.natCast_emod]
      have g : atI (ms.map V.int) (((i : Nat) : Int) % (m : Int)) = some (.int ms[i % m]) := by
        rw [ei]
        exact atI_nat (by rw [List.getElem?_map, List.getElem?_eq_getElem him]; rfl)
      have g2 : ixN (ms.map V.int).length (((i : Nat) : Int) % (m : Int)) = some (i % m) := by
        rw [ei, List.length_map]
        unfold ixN
        rw [if_pos (by omega), if_pos (by omega), Int.toNat_natCast]
      refine ⟨T, _, rfl, SqT.of upd_same, rfl, _, _, rfl, _, _, rfl, rfl, ?_⟩
      refine ⟨.ref c, rfl, .int (i : Nat), rfl, .int (m : Int), rfl, _, _, rfl, rfl, by omega, c, _, _, .int ms[i % m], rfl, rfl, SqL.of hc', g, .int zs[i], rfl, .int (i : Nat), rfl, _, 2, rfl, rfl, _, _, rfl, rfl, .inr ⟨by omega, by omega⟩, _, _, rfl, rfl, ?_⟩
      refine ⟨.ref c, rfl, .int (i : Nat), rfl, .int (m : Int), rfl, _, _, rfl, rfl, by omega, c, _, _, i % m, rfl, rfl, hc', g2, ?_⟩
      refine ⟨some (.int (i : Nat)), some (.int zs[i]), ms.set (i % m) (ms[i % m] + zs[i] * ((i : Int) + 2)), rfl, fun b z e => ?_, ?_, ?_, ?_⟩
      · rw [upd_ne (fun q => by subst q; rw [hcH] at e; cases e), upd_ne (ne_of_none (sm _ _ e) nT)]
        exact sm _ _ e
      · rw [upd_same, List.map_set]
      · rw [List.length_set]
        exact hl
      · rw [upd_ne ndc.symm, upd_ne nTd]
        exact hd
    · rintro σ H3 ⟨y3, y4, ms, rfl, sm, hc, hl, hd⟩
      exact ⟨.ref c, rfl, q _ _ ms sm hcH hc hl⟩
end
end Sg

namespace Sg
open PySem PySem.Spec PyProof.Rows L2
abbrev sNames : Stmt := topS 10
abbrev nNames : List Str := ["_law_tape_here", "_law_many", "_law_letters", "_law_shift", "_law_k", "_law_stem", "_law_at", "_law_step", "_law_found", "_law_head", "_law_tail", "_law_way", "_law_sign"]
theorem scNames : FnScope nNames ["_law_tape_here", "_law_many"] (defScope sNames) := ⟨rfl, rfl, rfl, by decide +kernel, rfl, by decide +kernel, by decide +kernel⟩
abbrev abc : Str := Str.ofString "abcdefghijklmnopqrstuvwxyz"
theorem abc_len : abc.cps.toList.length = 26 := by decide +kernel
theorem abc_low : ∀ c ∈ abc.cps.toList, 97 ≤ c ∧ c ≤ 122 := by decide +kernel
theorem abc_code : ∀ j, j < 26 → abc.cps.toList[j]? = some (97 + j) := by decide +kernel
theorem letter {i : Int} (h0 : 0 ≤ i) (h1 : i < 26) : ∃ c : Nat, atI abc.cps.toList i = some c ∧ Low ⟨#[c]⟩ ∧ (c : Int) = 97 + i := by
  obtain ⟨j, rfl⟩ : ∃ j : Nat, i = j := ⟨i.toNat, by omega⟩
  have hj : j < abc.cps.toList.length := by rw [abc_len]; omega
  have hcode : abc.cps.toList[j] = 97 + j := Option.some.inj ((List.getElem?_eq_getElem hj).symm.trans (abc_code j (by omega)))
  refine ⟨abc.cps.toList[j], atI_nat (List.getElem?_eq_getElem hj), fun c hc => ?_, by rw [hcode]; omega⟩
  have e : (⟨#[abc.cps.toList[j]]⟩ : Str).cps.toList = [abc.cps.toList[j]] := rfl
  rw [e] at hc
  rw [List.mem_singleton.mp hc]
  exact abc_low _ (List.getElem_mem hj)
theorem three {α : Type} {r : Int} (h0 : 0 ≤ r) (h1 : r < 3) (x y z : α) : ∃ v, atI [x, y, z] r = some v ∧ (v = x ∨ v = y ∨ v = z) := by
  have : r = 0 ∨ r = 1 ∨ r = 2 := by omega
  rcases this with rfl | rfl | rfl
  · exact ⟨x, rfl, .inl rfl⟩
  · exact ⟨y, rfl, .inr (.inl rfl)⟩
  · exact ⟨z, rfl, .inr (.inr rfl)⟩
theorem threeE {α : Type} {r : Int} (h0 : 0 ≤ r) (h1 : r < 3) (x y z : α) : atI [x, y, z] r = some (if r = 0 then x else if r = 1 then y else z) := by
  have : r = 0 ∨ r = 1 ∨ r = 2 := by omega
  rcases this with rfl | rfl | rfl <;> rfl
/-- the number that the way takes -/
def selM (W : Int) (j : Nat) : Int := if W = 1 then ((j / 2 : Nat) : Int) else (j : Int)
/-- names as they are made: one head, a letter, a tail -/
def Frm (hd tl : Str) (sh st W : Int) (ws : List Str) : Prop := ∀ (j : Nat) (x : Str), ws[j]? = some x → ∃ (c : Nat) (tj : Str), x = hd ++ ⟨#[c]⟩ ++ tj ∧ (c : Int) = 97 + (sh + st * selM W j) % 26 ∧ (W = 1 → tj = if j % 2 = 0 then Str.empty else tl) ∧ tj.cps.toList = tl.cps.toList.take tj.cps.toList.length
theorem sel_inj {sh st : Int} {a b : Nat} (hst : st = 1 ∨ st = 7 ∨ st = 25) (ha : a < 26) (hb : b < 26) (h : (sh + st * (a : Int)) % 26 = (sh + st * (b : Int)) % 26) : a = b := by
  rcases hst with rfl | rfl | rfl <;> omega
theorem str_cut {hd a b ta tb : Str} {c d : Nat} (h : hd ++ (⟨#[c]⟩ : Str) ++ ta = hd ++ (⟨#[d]⟩ : Str) ++ tb) : c = d ∧ ta = tb := by
  have e := congrArg (fun x : Str => x.cps.toList) h
  have l : ∀ (c : Nat) (t : Str), (hd ++ (⟨#[c]⟩ : Str) ++ t).cps.toList = hd.cps.toList ++ (c :: t.cps.toList) := fun c t => by
    have e1 := TL.tl_append (hd ++ (⟨#[c]⟩ : Str)) t
    have e2 := TL.tl_append hd (⟨#[c]⟩ : Str)
    show TL.tl (hd ++ (⟨#[c]⟩ : Str) ++ t) = _
    rw [e1, e2, List.append_assoc]
    rfl
  simp only [l] at e
  have e2 := List.append_cancel_left e
  have e3 := (List.cons.inj e2)
  refine ⟨e3.1, ?_⟩
  have e4 := e3.2
  cases ta with
  | mk x =>
    cases tb with
    | mk y =>
      have : x = y := by
        have := congrArg List.toArray e4
        simpa using this
      rw [this]
theorem Frm.nodup {hd tl : Str} {sh st W : Int} {ws : List Str} (h : Frm hd tl sh st W ws) (hst : st = 1 ∨ st = 7 ∨ st = 25) (hl : ws.length ≤ 26) (hW : W = 1 → tl ≠ Str.empty) : ws.Nodup := by
  rw [List.nodup_iff_pairwise_ne, List.pairwise_iff_getElem]
  intro i j hi hj hij e
  obtain ⟨c, t1, h1, h2, h3⟩ := h i _ (List.getElem?_eq_getElem hi)
  obtain ⟨d, t2, g1, g2, g3⟩ := h j _ (List.getElem?_eq_getElem hj)
  rw [h1, g1] at e
  obtain ⟨e1, e2⟩ := str_cut (a := hd) (b := hd) e
  subst e1
  have em : (sh + st * selM W i) % 26 = (sh + st * selM W j) % 26 := by omega
  by_cases w1 : W = 1
  · have s1 : selM W i = ((i / 2 : Nat) : Int) := if_pos w1
    have s2 : selM W j = ((j / 2 : Nat) : Int) := if_pos w1
    rw [s1, s2] at em
    have := sel_inj hst (by omega) (by omega) em
    have p1 := h3.1 w1
    have p2 := g3.1 w1
    rw [p1, p2] at e2
    have hne := hW w1
    by_cases z : i % 2 = 0
    · rw [if_pos z, if_neg (by omega)] at e2
      exact hne e2.symm
    · rw [if_neg z, if_pos (by omega)] at e2
      exact hne e2
  · have s1 : selM W i = (i : Int) := if_neg w1
    have s2 : selM W j = (j : Int) := if_neg w1
    rw [s1, s2] at em
    have := sel_inj hst (by omega) (by omega) em
    omega
/-- of two that are one another's mirror both are one -/
def NR (ws : List Str) : Prop := ∀ x ∈ ws, ∀ y ∈ ws, y.cps.toList = x.cps.toList.reverse → x = y
theorem cps_app (hd : Str) (c : Nat) (t : Str) : (hd ++ (⟨#[c]⟩ : Str) ++ t).cps.toList = hd.cps.toList ++ (c :: t.cps.toList) := by
  have e1 := TL.tl_append (hd ++ (⟨#[c]⟩ : Str)) t
  have e2 := TL.tl_append hd (⟨#[c]⟩ : Str)
  show TL.tl (hd ++ (⟨#[c]⟩ : Str) ++ t) = _
  rw [e1, e2, List.append_assoc]
  rfl
theorem mirror_one (h T : List Nat) (c d : Nat) (e : h ++ d :: T = (h ++ c :: T).reverse) : c = d := by
  have hx : ∀ (z i : Nat), i ≠ h.length → (h ++ z :: T)[i]? = (h ++ c :: T)[i]? := by
    intro z i hi
    rcases Nat.lt_or_gt_of_ne hi with g | g
    · rw [List.getElem?_append_left g, List.getElem?_append_left g]
    · rw [List.getElem?_append_right (by omega), List.getElem?_append_right (by omega)]
      obtain ⟨k, hk⟩ : ∃ k, i - h.length = k + 1 := ⟨i - h.length - 1, by omega⟩
      rw [hk]
      rfl
  have hp : ∀ z : Nat, (h ++ z :: T)[h.length]? = some z := fun z => by
    rw [List.getElem?_append_right (Nat.le_refl _), Nat.sub_self]
    rfl
  have hlen : (h ++ c :: T).length = h.length + T.length + 1 := by simp; omega
  have hr : ∀ i, i < (h ++ c :: T).length → (h ++ d :: T)[i]? = (h ++ c :: T)[(h ++ c :: T).length - 1 - i]? := fun i hi => by
    rw [e]
    exact List.getElem?_reverse hi
  have r1 := hr h.length (by omega)
  rw [hp d] at r1
  by_cases hq : (h ++ c :: T).length - 1 - h.length = h.length
  · rw [hq, hp c] at r1
    exact (Option.some.inj r1).symm
  · have r2 := hr ((h ++ c :: T).length - 1 - h.length) (by omega)
    rw [hx d _ hq, show (h ++ c :: T).length - 1 - ((h ++ c :: T).length - 1 - h.length) = h.length by omega, hp c] at r2
    rw [r2] at r1
    exact (Option.some.inj r1).symm
theorem Frm.nr {hd tl : Str} {sh st W : Int} {ws : List Str} (h : Frm hd tl sh st W ws) : NR ws := by
  intro x hx y hy e
  obtain ⟨i, hi⟩ := List.getElem?_of_mem hx
  obtain ⟨j, hj⟩ := List.getElem?_of_mem hy
  obtain ⟨c, t1, h1, _, _, h4⟩ := h i x hi
  obtain ⟨d, t2, g1, _, _, g4⟩ := h j y hj
  have hl := congrArg List.length e
  rw [h1, g1, cps_app, cps_app] at e
  rw [h1, g1, cps_app, cps_app] at hl
  simp only [List.length_append, List.length_cons, List.length_reverse] at hl
  have et : t1.cps.toList = t2.cps.toList := by
    rw [h4, g4, show t1.cps.toList.length = t2.cps.toList.length by omega]
  rw [et] at e
  have hcd := mirror_one _ _ _ _ e
  rw [h1, g1, hcd]
  congr 1
  cases t1 with
  | mk a =>
    cases t2 with
    | mk b =>
      have := Array.toList_inj.mp et
      simp at this
      rw [this]
theorem sz (n : Nat) (h : n ≤ 1000) : n ≤ sizeLine := Nat.le_of_lt (small1000 h)
section
variable {P : Program} {w : World} {K : PySem.W.Frag} {mg : Str → Option Value} {base : Heap}
def spNames : Sp := fun vs H Q _ => ∃ (t : Addr) (m n : Nat), vs = [.ref t, .int (m : Int)] ∧ m ≤ 60 ∧ TapeAt H t n ∧ n ≤ 900000 ∧
  ∀ (p : Addr) (H' : Hp) (ws : List Str), Ex t H H' → TapeAt H' t (n + 12) → H p = none → H' p = some (.lst (ws.map V.str)) → ws.length = m → (∀ x ∈ ws, Wd x) → (m ≤ 26 → ws.Nodup) → NR ws → Q (.ref p) H'
theorem ok_names {f fD : Addr} {fd fdD : FuncData} {k : Nat} (F : Fun K "_law_names" "_law_names" sNames f fd) (FD : Fun K "_law_draw" "_law_draw" sDraw fD fdD) (bD : Binds K fdD ["_law_tape_here", "_law_many"] []) (gD : mg "_law_draw" = some (.ref fD))
    (ml : mg "len" = none) (mr : mg "range" = none) (mi : mg "int" = none) : FnOk P w K mg base CX0 (k + 2) f fd ["_law_tape_here", "_law_many"] spNames := by
  have GD : FnOk P w K mg base CX0 (k + 1) fD fdD ["_law_tape_here", "_law_many"] spDraw := ok_draw FD
  refine F.ok scNames (fun vs H Q E h => ?_) (fun cdv A outer s H vs Q E hr h => ?_)
  · obtain ⟨t, m, n, rfl, _⟩ := h
    rfl
  · obtain ⟨t, m, n, rfl, hm, hT, hn, q⟩ := h
    refine ⟨_, pss_cons (ps_asg (pe_tup (pa_cons pe_str (pa_cons (pe_call GD hr (by rfl) gD FD.kp bD .nil pass0 (pa_cons (pv 0) (pa_cons pe_int pa_nil))) pa_nil))) (pg_tup rfl (pgs_cons (pg_name (i := 2) scNames.nd rfl (.inr rfl)) (pgs_cons (pg_name (i := 3) scNames.nd rfl (.inl rfl)) pgs_nil))))
      (pss_cons (ps_set (i := 5) scNames.nd rfl (.inl rfl) (pe_join pe_str (pe_lc (own := [("_law_k", 4)]) (g := gName 4) (tt := tYes) rfl scNames.nd (pi_range1 rfl mr (pa_cons (pe_call GD hr (by rfl) gD FD.kp bD .nil pass0 (pa_cons (pv 0) (pa_cons pe_int pa_nil))) pa_nil)) (blkOk_by (N := nNames) (sc := defScope sNames) (by decide +kernel))
          (fun _ _ _ _ _ => pg_name (i := 4) scNames.nd rfl (.inl rfl)) (fun _ _ _ _ _ => pts_nil) (fun _ _ _ _ _ => pe_ix ix_str (pv 2) (pe_call GD hr (by rfl) gD FD.kp bD .nil pass0 (pa_cons (pv 0) (pa_cons pe_int pa_nil))) (fun _ _ => rfl)))))
      (pss_cons (ps_par3 (i := 6) (j := 7) (l := 8) rfl scNames.nd rfl rfl rfl (by decide) (by decide) (by decide) rfl rfl rfl (pa_cons (pe_call GD hr (by rfl) gD FD.kp bD .nil pass0 (pa_cons (pv 0) (pa_cons (pe_op op_add (pe_callB call_len_str (by rfl) ml PySem.boot_len (pa_cons (pv 5) pa_nil)) pe_int) pa_nil)))
          (pa_cons (pe_ix ix_list (pe_lst (pa_cons pe_int (pa_cons pe_int (pa_cons pe_int pa_nil)))) (pe_call GD hr (by rfl) gD FD.kp bD .nil pass0 (pa_cons (pv 0) (pa_cons pe_int pa_nil))) (fun _ _ => rfl)) (pa_cons (pe_lst pa_nil) pa_nil))) rfl)
      (pss_cons (ps_par (i := 9) (j := 10) rfl scNames.nd rfl rfl (by decide) rfl rfl (pa_cons (pe_slice sl_str (pv 5) po_none (po_some (pv 6))) (pa_cons (pe_slice sl_str (pv 5) (po_some (pv 6)) po_none) pa_nil)) rfl)
      (pss_cons (ps_for PassesOwn.never rfl (pi_range1 rfl mr (pa_cons (pv 1) pa_nil)) (pg_name (i := 4) scNames.nd rfl (.inl rfl))
        (pss_cons (ps_set (i := 11) scNames.nd rfl (.inl rfl) (pe_op op_mul (pe_op op_mod (pe_op op_add (pe_op op_add (pv 3) (pv 6)) (pe_callB call_len_str (by rfl) ml PySem.boot_len (pa_cons (pv 5) pa_nil))) pe_int) (pe_callTy call_int1 (by rfl) mi (by decide +kernel) (pa_cons (pe_cmpR op_ne (pv 10) pe_str (nomark _)) pa_nil))))
        (pss_cons (ps_set (i := 12) scNames.nd rfl (.inl rfl) (pe_ix ix_str (pv 2) (pe_op op_mod (pe_op op_add (pv 3) (pe_op op_mul (pv 7) (pe_ix ix_list (pe_lst (pa_cons (pv 4) (pa_cons (pe_op op_fdiv (pv 4) pe_int) (pa_cons (pv 4) pa_nil)))) (pv 11) (fun _ _ => rfl)))) pe_int) (fun _ _ => rfl)))
        (pss_one (ps_expr (pe_bm PySem.F.plainAttrs_list PySem.F.slot_list_append PySem.F.type_list_append mt_append (pv 8) (pa_cons (pe_op op_add_str (pe_op op_add_str (pv 9) (pv 12)) (pe_ix ix_list (pe_lst (pa_cons (pv 10) (pa_cons (pe_op op_repS (pv 10) (pe_op op_mod (pv 4) pe_int)) (pa_cons (pe_slice sl_str (pv 10) po_none (po_some (pe_op op_mod (pv 4) (pe_op op_add (pe_callB call_len_str (by rfl) ml PySem.boot_len (pa_cons (pv 10) pa_nil)) pe_int)))) pa_nil)))) (pv 11) (fun _ _ => rfl))) pa_nil)))))))
      (pss_one (ps_ret (pv 8))))))), ?_⟩
    have nt : ∀ {G : Hp} {j : Nat} {a : Addr}, TapeAt G t j → G a = none → a ≠ t := fun h e => h.ne_none e
    -- letters, shift
    refine ⟨.ref t, rfl, t, 26, n, rfl, by decide, by decide, hT, by omega, fun sh H1 x1 T1 hs0 hs1 => ⟨by show 2 ≤ sizeLine; decide, fun tp ntp => ?_⟩⟩
    have T1' : TapeAt (upd H1 tp (.tup [.str abc, .int sh])) t (n + 1) := T1.upd (nt T1 ntp)
    have x1' : Ex t H (upd H1 tp (.tup [.str abc, .int sh])) := x1.trans (Same.ex (same_upd ntp))
    refine ⟨tp, _, rfl, SqT.of upd_same, rfl, _, _, rfl, _, _, rfl, rfl, ?_⟩
    -- stem
    refine ⟨⟨_, rfl⟩, .ref t, rfl, t, 8, n + 1, rfl, by decide, by decide, T1', by omega, fun r H2 x2 T2 hr0 hr1 => ⟨r, rfl, by omega, by omega, fun D nD => ?_⟩⟩
    refine lc_it (walk_range (lo := 0) (n := r.toNat)) (fun i H3 => ∃ cs : List Str, Ex t H H3 ∧ TapeAt H3 t (n + 2 + i) ∧ H3 D = some (.lst (cs.map V.str)) ∧ cs.length = i ∧ (cs.map (·.length)).sum = i ∧ ∀ x ∈ cs, Low x) ?_ (fun _ _ _ _ => trivial) ?_ ?_
    · exact ⟨[], (x1'.trans x2).trans (Same.ex (same_upd nD)), T2.upd (nt T2 nD), upd_same, rfl, rfl, fun x hx => by cases hx⟩
    · rintro i x H3 H4 hi ⟨cs, x3, T3, e3, l3, u3, w3⟩ ⟨rfl, rfl⟩
      refine ⟨rfl, .str abc, rfl, .ref t, rfl, t, 26, n + 2 + i, rfl, by decide, by decide, T3, by omega, fun r2 H5 x5 T5 h50 h51 => ?_⟩
      obtain ⟨c, hc, lowc, _⟩ := letter h50 h51
      have hDt : D ≠ t := nt T2 nD
      have e5 := x5 D _ hDt e3
      refine ⟨abc, r2, c, rfl, rfl, (by decide +kernel), hc, _, e5, ?_, cs ++ [⟨#[c]⟩], ?_, ?_, ?_, ?_, ?_, ?_⟩
      · rw [List.length_map, l3]
        exact small1000 (by omega)
      · intro a o ha ho
        have hD : a ≠ D := by
          intro ea
          subst ea
          rw [x2.free ha nD |> x1'.free ha] at ho
          cases ho
        rw [upd_ne hD]
        exact x5 _ _ ha (x3 _ _ ha ho)
      · have := T5.upd (o := .lst (cs.map V.str ++ [.str ⟨#[c]⟩])) hDt
        exact this.mono (by omega)
      · rw [upd_same, List.map_append]
        rfl
      · rw [List.length_append, l3]
        rfl
      · rw [List.map_append, List.sum_append, u3]
        rfl
      · intro x hx
        rcases List.mem_append.mp hx with hx | hx
        · exact w3 x hx
        · rw [List.mem_singleton.mp hx]
          exact lowc
    · rintro H3 ⟨cs, x3, T3, e3, l3, u3, w3⟩
      refine ⟨Str.ofString "", D, cs, rfl, rfl, .inl (SqL.of e3), ?_, ?_⟩
      · rw [u3, l3, show (Str.ofString "").length = 0 by decide +kernel]
        omega
      have hlen : (Txt.join (Str.ofString "") cs).length ≤ 7 := by
        rw [show Txt.join (Str.ofString "") cs = Str.join (Str.ofString "") cs from StrLaws.glued_eq_join _ _]
        have := StrLaws.join_length_le (Str.ofString "") cs
        rw [u3, show (Str.ofString "").length = 0 by decide +kernel] at this
        omega
      have hlow : Low (Txt.join (Str.ofString "") cs) := by
        rw [show Txt.join (Str.ofString "") cs = Str.join (Str.ofString "") cs from StrLaws.glued_eq_join _ _]
        exact Low.join cs w3
      generalize Txt.join (Str.ofString "") cs = stem at hlen hlow ⊢
      -- at, step, found
      refine ⟨.ref t, rfl, .str stem, rfl, stem, rfl, sz _ (by omega), _, 1, rfl, rfl, t, _, n + 2 + r.toNat, rfl, by omega, by omega, T3, by omega, fun at_ H4 x4 T4 h40 h41 => ?_⟩
      refine ⟨by show 3 ≤ sizeLine; decide, fun l nl => ?_⟩
      have nlt := nt T4 nl
      refine ⟨.ref t, rfl, t, 3, n + 2 + r.toNat + 1, rfl, by decide, by decide, T4.upd nlt, by omega, fun r3 H5 x5 T5 h50 h51 => ?_⟩
      obtain ⟨stv, hst, hst2⟩ := three h50 h51 (V.int 1) (.int 7) (.int 25)
      obtain ⟨st, rfl, hst0, hst1, hst3⟩ : ∃ st : Int, stv = .int st ∧ 0 ≤ st ∧ st ≤ 25 ∧ (st = 1 ∨ st = 7 ∨ st = 25) := by
        rcases hst2 with rfl | rfl | rfl
        · exact ⟨1, rfl, by decide, by decide, .inl rfl⟩
        · exact ⟨7, rfl, by decide, by decide, .inr (.inl rfl)⟩
        · exact ⟨25, rfl, by decide, by decide, .inr (.inr rfl)⟩
      refine ⟨l, _, r3, .int st, rfl, rfl, SqL.of (x5 l _ nlt upd_same), hst, ?_⟩
      refine ⟨Nat.zero_le _, fun p np => ⟨_, _, _, rfl, ?_⟩⟩
      have npt := nt T5 np
      have T6 : TapeAt (upd H5 p (.lst [])) t (n + 12) := (T5.upd npt).mono (by omega)
      have x6 : Ex t H (upd H5 p (.lst [])) := ((x3.trans x4).trans (Same.ex (same_upd nl))).trans (x5.trans (Same.ex (same_upd np)))
      have hpH : H p = none := ((x3.trans x4).trans (Same.ex (same_upd nl))).trans x5 |>.free npt np
      -- head, tail
      refine ⟨.str stem, rfl, .int at_, rfl, at_, rfl, stem, rfl, sz _ (by omega), .str stem, rfl, .int at_, rfl, at_, rfl, stem, rfl, sz _ (by omega), _, _, rfl, ?_⟩
      have lh : (cutS stem none (some at_)).length ≤ 7 := Nat.le_trans (cutS_length _ _ _) hlen
      have lt : (cutS stem (some at_) none).length ≤ 7 := Nat.le_trans (cutS_length _ _ _) hlen
      have wh : Low (cutS stem none (some at_)) := hlow.cut _ _
      have wt : Low (cutS stem (some at_) none) := hlow.cut _ _
      generalize cutS stem none (some at_) = hd at lh wh ⊢
      generalize cutS stem (some at_) none = tl at lt wt ⊢
      obtain ⟨wy, hwy, hw0, hw1, hwe⟩ : ∃ wy : Int, (sh + at_ + (stem.length : Int)) % 3 * (if (!decide (V.str tl = V.str (Str.ofString ""))) = true then (1 : Int) else 0) = wy ∧ 0 ≤ wy ∧ wy < 3 ∧ (wy = 1 → tl ≠ Str.empty) := by
        have hw3 := mod_lt (i := sh + at_ + (stem.length : Int)) (j := 3) (by decide)
        refine ⟨_, rfl, ?_⟩
        split
        · rename_i hz
          rw [Int.mul_one]
          refine ⟨hw3.1, hw3.2, fun _ e => ?_⟩
          rw [e] at hz
          revert hz
          decide +kernel
        · rw [Int.mul_zero]
          exact ⟨by decide, by decide, fun z => by cases z⟩
      -- the loop
      refine ⟨.int (m : Int), rfl, (m : Int), rfl, by omega, by omega, ?_⟩
      refine for_it (walk_range (lo := 0) (n := (m : Int).toNat)) (fun i σ H7 => ∃ (y4 y11 y12 : Option V) (ws : List Str), σ = [some (.ref t), some (.int (m : Int)), some (.str abc), some (.int sh), y4, some (.str stem), some (.int at_), some (.int st), some (.ref p), some (.str hd), some (.str tl), y11, y12] ∧ Ex t H H7 ∧ TapeAt H7 t (n + 12) ∧ H7 p = some (.lst (ws.map V.str)) ∧ ws.length = i ∧ (∀ x ∈ ws, Wd x) ∧ Frm hd tl sh st wy ws) ?_ (fun _ _ _ _ _ => trivial) ?_ ?_
      · exact ⟨none, none, none, [], rfl, x6, T6, upd_same, rfl, (fun x hx => by cases hx), fun j x hx => by simp at hx⟩
      · rintro i x σ H8 H7 hi ⟨y4, y11, y12, ws, rfl, x7, T7, e7, l7, b7, fr7⟩ ⟨rfl, rfl⟩
        rw [Int.toNat_natCast] at hi
        -- way
        refine ⟨.int sh, rfl, .int at_, rfl, _, _, rfl, rfl, .str stem, rfl, stem, rfl, sz _ (by omega), _, _, rfl, rfl, _, 3, rfl, rfl, (by decide : (0 : Int) < 3), .str tl, rfl, rfl, .inr ⟨_, rfl, _, _, rfl, rfl, .inr (b01 _), ?_⟩⟩
        dsimp only
        rw [hwy]
        -- sign
        have ik : ((0 : Int) + (i : Nat)) / 2 ≤ i := by omega
        have hkv := threeE hw0 hw1 (V.int (0 + (i : Nat))) (V.int ((0 + (i : Nat)) / 2)) (V.int (0 + (i : Nat)))
        obtain ⟨kk, hkk, hk0, hk1, hks⟩ : ∃ kk : Int, (if wy = 0 then V.int (0 + (i : Nat)) else if wy = 1 then V.int ((0 + (i : Nat)) / 2) else V.int (0 + (i : Nat))) = .int kk ∧ 0 ≤ kk ∧ kk ≤ 100 ∧ kk = selM wy i := by
          have : wy = 0 ∨ wy = 1 ∨ wy = 2 := by omega
          rcases this with rfl | rfl | rfl
          · exact ⟨0 + (i : Nat), rfl, by omega, by omega, by show _ = (i : Int); omega⟩
          · exact ⟨(0 + (i : Nat)) / 2, rfl, by omega, by omega, by show _ = ((i / 2 : Nat) : Int); omega⟩
          · exact ⟨0 + (i : Nat), rfl, by omega, by omega, by show _ = (i : Int); omega⟩
        rw [hkk] at hkv
        have hs26 := mod_lt (i := sh + st * kk) (j := 26) (by decide)
        obtain ⟨c, hc, lowc, codec⟩ := letter hs26.1 hs26.2
        refine ⟨.str abc, rfl, .int sh, rfl, .int st, rfl, .int (0 + (i : Nat)), rfl, .int (0 + (i : Nat)), rfl, _, 2, rfl, rfl, ⟨by decide, by decide⟩, .int (0 + (i : Nat)), rfl, by show 3 ≤ sizeLine; decide, fun l1 nl1 => ?_⟩
        have nl1t := nt T7 nl1
        have T8 := T7.upd (o := .lst [.int (0 + (i : Nat)), .int ((0 + (i : Nat)) / 2), .int (0 + (i : Nat))]) nl1t
        have sm8 : Same H7 (upd H7 l1 (.lst [.int (0 + (i : Nat)), .int ((0 + (i : Nat)) / 2), .int (0 + (i : Nat))])) := same_upd nl1
        refine ⟨.int wy, rfl, l1, _, wy, .int kk, rfl, rfl, SqL.of upd_same, hkv, st, kk, rfl, rfl, .inl ⟨by omega, by omega⟩, sh, _, rfl, rfl, _, 26, rfl, rfl, (by decide : (0 : Int) < 26), abc, _, c, rfl, rfl, (by decide +kernel), hc, ?_⟩
        -- append
        have lsg : (⟨#[c]⟩ : Str).length = 1 := rfl
        have lh1 : (hd ++ (⟨#[c]⟩ : Str)).length ≤ 8 := by rw [Str.length_append]; omega
        refine ⟨.ref p, rfl, .inl ⟨rfl, _, SqL.of (sm8 _ _ e7)⟩, .str hd, rfl, .str ⟨#[c]⟩, rfl, hd, _, rfl, rfl, sz _ (by omega), .str tl, rfl, .str tl, rfl, .int (0 + (i : Nat)), rfl, _, 2, rfl, rfl, (by decide : (0 : Int) < 2), tl, _, rfl, rfl, (by omega), ?_⟩
        have lr := rep_len tl ((0 + (i : Nat)) % 2)
        have wr : Low (if ((0 : Int) + (i : Nat)) % 2 = 0 then Str.empty else tl) := wt.rep _
        generalize htr : (if ((0 : Int) + (i : Nat)) % 2 = 0 then Str.empty else tl) = tr at lr wr ⊢
        have hkp := mod_lt (i := (0 : Int) + (i : Nat)) (j := (tl.length : Int) + 1) (by omega)
        refine ⟨.str tl, rfl, .int (0 + (i : Nat)), rfl, .str tl, rfl, tl, rfl, sz _ (by omega), _, 1, rfl, rfl, _, _, rfl, rfl, (by omega), _, rfl, tl, rfl, sz _ (by omega), by show 3 ≤ sizeLine; decide, fun l2 nl2 => ?_⟩
        have lc := cutS_length tl none (some ((0 + (i : Nat)) % ((tl.length : Int) + 1)))
        have wc : Low (cutS tl none (some ((0 + (i : Nat)) % ((tl.length : Int) + 1)))) := wt.cut _ _
        generalize hcc : cutS tl none (some ((0 + (i : Nat)) % ((tl.length : Int) + 1))) = tc at lc wc
        have nl2t := nt T8 nl2
        have htv := threeE hw0 hw1 (V.str tl) (.str tr) (.str tc)
        obtain ⟨tt, htt, htl, wtt, htw, htp⟩ : ∃ tt : Str, (if wy = 0 then V.str tl else if wy = 1 then V.str tr else V.str tc) = .str tt ∧ tt.length ≤ 7 ∧ Low tt ∧ (wy = 1 → tt = tr) ∧ tt.cps.toList = tl.cps.toList.take tt.cps.toList.length := by
          have : wy = 0 ∨ wy = 1 ∨ wy = 2 := by omega
          rcases this with rfl | rfl | rfl
          · exact ⟨tl, rfl, lt, wt, (fun z => by cases z), (List.take_length).symm⟩
          · refine ⟨tr, rfl, by omega, wr, fun _ => rfl, ?_⟩
            rw [← htr]
            split
            · rfl
            · exact (List.take_length).symm
          · refine ⟨tc, rfl, by omega, wc, (fun z => by cases z), ?_⟩
            rw [← hcc]
            show (tl.cps.toList.drop 0).take _ = tl.cps.toList.take ((tl.cps.toList.drop 0).take _).length
            rw [List.drop_zero, List.length_take, ← List.take_eq_take_min]
        rw [htt] at htv
        have sm9 := Same.trans sm8 (same_upd (o := .lst [.str tl, .str tr, .str tc]) nl2)
        refine ⟨.int wy, rfl, l2, [.str tl, .str tr, .str tc], wy, .str tt, rfl, rfl, SqL.of upd_same, htv, _, tt, rfl, rfl, sz _ (by omega), p, _, _, rfl, rfl, sm9 _ _ e7, ?_, ?_⟩
        · rw [List.length_map, l7]
          exact small1000 (by omega)
        refine ⟨some (.int (0 + (i : Nat))), some (.int wy), some (.str ⟨#[c]⟩), ws ++ [hd ++ ⟨#[c]⟩ ++ tt], rfl, ?_, ?_, ?_, ?_, ?_, ?_⟩
        · intro a o ha ho
          have hp : a ≠ p := by
            intro ea
            subst ea
            rw [hpH] at ho
            cases ho
          rw [upd_ne hp]
          exact sm9 _ _ (x7 _ _ ha ho)
        · exact (T7.same sm9).upd npt
        · rw [upd_same, List.map_append]
          rfl
        · rw [List.length_append, l7]
          rfl
        · intro x hx
          rcases List.mem_append.mp hx with hx | hx
          · exact b7 x hx
          · rw [List.mem_singleton.mp hx]
            exact ⟨by rw [Str.length_append]; omega, (wh.append lowc).append wtt⟩
        · intro j x hx
          by_cases hj : j < ws.length
          · rw [List.getElem?_append_left hj] at hx
            exact fr7 j x hx
          · rw [List.getElem?_append_right (by omega)] at hx
            have hj0 : j - ws.length = 0 := by
              cases q : j - ws.length with
              | zero => rfl
              | succ q' => rw [q] at hx; simp at hx
            rw [hj0] at hx
            have hx : some (hd ++ ⟨#[c]⟩ ++ tt) = some x := hx
            cases hx
            have hji : j = i := by omega
            subst hji
            refine ⟨c, tt, rfl, by rw [codec, hks], fun w1 => ?_, htp⟩
            rw [htw w1, ← htr]
            by_cases z : j % 2 = 0
            · rw [if_pos z, if_pos (by omega)]
            · rw [if_neg z, if_neg (by omega)]
      · rintro σ H7 ⟨y4, y11, y12, ws, rfl, x7, T7, e7, l7, b7, fr7⟩
        rw [Int.toNat_natCast] at l7
        exact ⟨.ref p, rfl, q _ _ ws x7 T7 hpH e7 l7 b7 (fun hm26 => fr7.nodup hst3 (by omega) hwe) fr7.nr⟩
end
end Sg

namespace Sg
open PySem PySem.Spec PyProof.Rows L2
abbrev sSame : Stmt := topS 19
abbrev nSame : List Str := ["_law_found", "_law_due", "_law_one", "_law_other"]
theorem scSame : FnScope nSame ["_law_found", "_law_due"] (defScope sSame) := ⟨rfl, rfl, rfl, by decide +kernel, rfl, by decide +kernel, by decide +kernel⟩
theorem walk_zipT {K : PySem.W.Frag} {a b : Addr} {xs ys : List V} {n : Nat} (hn : n = min xs.length ys.length) : Walk (RZ.ItzT K a b) n (fun H => SqT K H a xs ∧ SqT K H b ys) (YPair (fun i => xs[i]?) (fun i => ys[i]?)) := by
  subst hn
  refine ⟨fun i _ hi q => ?_, fun _ q => ⟨xs, ys, q.1, q.2, by omega⟩, fun i H v H' _ q y => ?_⟩
  · have h1 : i < xs.length := by omega
    have h2 : i < ys.length := by omega
    exact ⟨xs, ys, xs[i], ys[i], q.1, q.2, by simp [h1], by simp [h2]⟩
  · obtain ⟨T, x, z, h1, h2, h3, h4, h5⟩ := y
    exact ⟨T, x, z, h1, h2, h3, h4 xs q.1, h5 ys q.2⟩
def tyD : PyData → String
  | .none => "NoneType"
  | .bool _ => "bool"
  | .int _ => "int"
  | .str _ => "str"
  | .list _ => "list"
  | .tuple _ => "tuple"
  | .dict _ => "dict"
theorem Rp.ty {K : PySem.W.Frag} {H : Hp} {v : V} {d : PyData} (h : Rp H v d) : TyX K H v (.type (tyD d)) := by
  cases h with
  | non => exact .base .non
  | bl b => exact .base (.bl b)
  | int i => exact .base (.int i)
  | str x => exact .base (.str x)
  | lst h _ => exact .base (.lst h)
  | tup h _ => exact .base (.tup h)
def Fit : Nat → PyData → Prop
  | n + 1, .list ds => ds.length ≤ 1000 ∧ ∀ d ∈ ds, Fit n d
  | n + 1, .tuple ds => ds.length ≤ 1000 ∧ ∀ d ∈ ds, Fit n d
  | 0, .list _ => False
  | 0, .tuple _ => False
  | _, .dict _ => False
  | _, _ => True
def spSame : Nat → Sp
  | 0 => fun _ _ _ _ => False
  | n + 1 => fun vs H Q _ => ∃ (u v : V) (d : PyData), vs = [u, v] ∧ Rp H u d ∧ Rp H v d ∧ Fit n d ∧ ∀ H', Same H H' → Q (.bl true) H'
theorem kitA {K : PySem.W.Frag} {t a b : String} {x y : Bool} (hx : kitB t a = some x) (hy : kitB t b = some y) : PySem.W.kitAny K (.type t) [.type a, .type b] = some (x || y) := by
  refine kitAny_cons (b := x) (kit_ty hx) (fun e => kitAny_cons (b := y) (kit_ty hy) (fun e2 => ?_) (fun e2 => ?_)) (fun e => ?_)
  · rw [e, e2]; exact kitAny_nil
  · rw [e2, Bool.or_true]
  · rw [e, Bool.true_or]
section
variable {P : Program} {w : World} {K : PySem.W.Frag} {mg : Str → Option Value} {base : Heap}
theorem all_true (n : Nat) : (List.replicate n true).all id = true := by
  rw [List.all_eq_true]
  intro x hx
  rw [List.eq_of_mem_replicate hx]
  rfl
theorem ok_same {f : Addr} {fd : FuncData} (F : Fun K "_law_same" "_law_same" sSame f fd) (b : Binds K fd ["_law_found", "_law_due"] []) (g : mg "_law_same" = some (.ref f))
    (mis : mg "isinstance" = none) (mls : mg "list" = none) (mt : mg "tuple" = none) (ml : mg "len" = none) (ma : mg "all" = none) (mz : mg "zip" = none) (mst : mg "str" = none) (mb : mg "bool" = none) (mi : mg "int" = none) :
    ∀ n, FnOk P w K mg base CX0 n f fd ["_law_found", "_law_due"] (spSame n) := by
  intro n
  induction n with
  | zero => exact ⟨fun _ _ _ _ h => h.elim, fun _ _ _ _ _ _ _ _ _ _ _ _ _ h => h.elim⟩
  | succ n ih =>
    refine F.ok scSame (fun vs H Q E h => ?_) (fun cdv A outer s H vs Q E hr h => ?_)
    · obtain ⟨u, v, d, rfl, _⟩ := h
      rfl
    · obtain ⟨u, v, d, rfl, hu, hv, hfit, q⟩ := h
      refine ⟨_, pss_cons (ps_if (pt_val (pe_callB call_isiT (by rfl) mis (by decide +kernel) (pa_cons (pv 1) (pa_cons (pe_tup (pa_cons (pe_bltn (v := .ty "list") (by rfl) mls (by decide +kernel) rfl) (pa_cons (pe_bltn (v := .ty "tuple") (by rfl) mt (by decide +kernel) rfl) pa_nil))) pa_nil))))
          (pss_cons (ps_if (PW.pt (pw_or (pt_cmpR op_ne (pe_callB call_isi (by rfl) mis (by decide +kernel) (pa_cons (pv 0) (pa_cons (pe_bltn (v := .ty "list") (by rfl) mls (by decide +kernel) rfl) pa_nil))) (pe_callB call_isi (by rfl) mis (by decide +kernel) (pa_cons (pv 1) (pa_cons (pe_bltn (v := .ty "list") (by rfl) mls (by decide +kernel) rfl) pa_nil))) (nomark _))
              (pw_or1 (pt_cmpR op_ne (pe_callB call_isi (by rfl) mis (by decide +kernel) (pa_cons (pv 0) (pa_cons (pe_bltn (v := .ty "tuple") (by rfl) mt (by decide +kernel) rfl) pa_nil))) (pe_callB call_isi (by rfl) mis (by decide +kernel) (pa_cons (pv 1) (pa_cons (pe_bltn (v := .ty "tuple") (by rfl) mt (by decide +kernel) rfl) pa_nil))) (nomark _)))))
            (pss_one (ps_ret pe_bl)) pss_nil)
          (pss_one (ps_ret (pe_and (pe_cmpR op_eq (pe_callB call_len_seq (by rfl) ml PySem.boot_len (pa_cons (pv 0) pa_nil)) (pe_callB call_len_seq (by rfl) ml PySem.boot_len (pa_cons (pv 1) pa_nil)) (nomark _))
            (pe_one (pe_callB (cr_all rfl) (by rfl) ma (by decide +kernel) (pa_cons (pe_lc (own := [("_law_one", 2), ("_law_other", 3)]) (g := gTup K 2 (gCons (gName 2) (gCons (gName 3) gNil))) (tt := tYes) (te := tCall (spSame n) [] E0 (tCons (tVar 2) (tCons (tVar 3) tNil))) rfl scSame.nd
              (RZ.pi_zipA (by rfl) mz (pa_cons (pv 0) (pa_cons (pv 1) pa_nil))) (blkOk_by (N := nSame) (sc := defScope sSame) (by decide +kernel))
              (fun _ _ _ _ _ => pg_tup rfl (pgs_cons (pg_name (i := 2) scSame.nd rfl (.inl rfl)) (pgs_cons (pg_name (i := 3) scSame.nd rfl (.inl rfl)) pgs_nil))) (fun _ _ _ _ _ => pts_nil)
              (fun _ _ _ _ _ => pe_call ih hr (by rfl) g F.kp b .nil pass0 (pa_cons (pv 2) (pa_cons (pv 3) pa_nil)))) pa_nil))))))) pss_nil)
        (pss_cons (ps_if (PW.pt (pw_or (pt_cmpR op_isN (pv 1) pe_non (nomark _)) (pw_or1 (pt_val (pe_callB call_isiT (by rfl) mis (by decide +kernel) (pa_cons (pv 1) (pa_cons (pe_tup (pa_cons (pe_bltn (v := .ty "str") (by rfl) mst (by decide +kernel) rfl) (pa_cons (pe_bltn (v := .ty "bool") (by rfl) mb (by decide +kernel) rfl) pa_nil))) pa_nil)))))))
          (pss_one (ps_ret (pe_and (pe_cmpR op_eq (pe_callB call_isi (by rfl) mis (by decide +kernel) (pa_cons (pv 0) (pa_cons (pe_bltn (v := .ty "bool") (by rfl) mb (by decide +kernel) rfl) pa_nil))) (pe_callB call_isi (by rfl) mis (by decide +kernel) (pa_cons (pv 1) (pa_cons (pe_bltn (v := .ty "bool") (by rfl) mb (by decide +kernel) rfl) pa_nil))) (nomark _)) (pe_one (pe_cmpR op_eq (pv 0) (pv 1) (nomark _)))))) pss_nil)
        (pss_one (ps_ret (pe_and (pe_callB call_isi (by rfl) mis (by decide +kernel) (pa_cons (pv 0) (pa_cons (pe_bltn (v := .ty "int") (by rfl) mi (by decide +kernel) rfl) pa_nil))) (pe_and (pe_not (pe_callB call_isi (by rfl) mis (by decide +kernel) (pa_cons (pv 0) (pa_cons (pe_bltn (v := .ty "bool") (by rfl) mb (by decide +kernel) rfl) pa_nil)))) (pe_one (pe_cmpR op_eq (pv 0) (pv 1) (nomark _)))))))), ?_⟩
      refine ⟨v, rfl, by show 2 ≤ sizeLine; decide, fun T nT => ?_⟩
      have s1 : Same H (upd H T (.tup [.ty "list", .ty "tuple"])) := same_upd nT
      have hu1 := hu.same s1
      have hv1 := hv.same s1
      have htT := (upd_same : upd H T (.tup [.ty "list", .ty "tuple"]) T = some (.tup [.ty "list", .ty "tuple"]))
      generalize upd H T (.tup [.ty "list", .ty "tuple"]) = H1 at *
      cases hu1 with
      | lst ha hs =>
        rename_i a xs ds
        cases hv1 with
        | lst hb ht =>
          rename_i b' ys
          obtain ⟨n', rfl⟩ : ∃ n', n = n' + 1 := by
            cases n with
            | zero => exact hfit.elim
            | succ n' => exact ⟨n', rfl⟩
          have hl1 := hs.length
          have hl2 := ht.length
          have hf1 : ds.length ≤ 1000 := hfit.1
          refine ⟨_, T, _, .type "list", _, _, rfl, htT, .cons (.ty _) (.cons (.ty _) .nil), .base (.lst hb), kitA (x := true) (y := false) (by decide +kernel) (by decide +kernel), _, rfl, ?_⟩
          refine ⟨.ref a, rfl, _, _, .type "list", _, true, rfl, .ty _, .base (.lst ha), kit_ty (by decide +kernel), .ref b', rfl, _, _, .type "list", _, true, rfl, .ty _, .base (.lst hb), kit_ty (by decide +kernel), rfl, _, rfl, iteNS rfl ?_⟩
          refine ⟨.ref a, rfl, _, _, .type "list", _, false, rfl, .ty _, .base (.lst ha), kit_ty (by decide +kernel), .ref b', rfl, _, _, .type "list", _, false, rfl, .ty _, .base (.lst hb), kit_ty (by decide +kernel), rfl, _, rfl, iteNS rfl ?_⟩
          refine ⟨.ref a, rfl, a, xs, rfl, .inl (SqL.of ha), .ref b', rfl, b', ys, rfl, .inl (SqL.of hb), rfl, _, rfl, ?_⟩
          rw [show decide (V.int (xs.length : Int) = V.int (ys.length : Int)) = true from decide_eq_true (by rw [hl1, hl2])]
          refine ⟨.ref a, rfl, .ref b', rfl, a, b', xs, ys, rfl, .inl ⟨SqL.of ha, SqL.of hb, fun D nD => ?_⟩⟩
          refine lc_it (walk_zip (xs := xs) (ys := ys) rfl) (fun i H3 => Same H1 H3 ∧ H3 D = some (.lst ((List.replicate i true).map V.bl))) ⟨same_upd nD, upd_same⟩ (fun i H3 _ h3 => ⟨SqL.of (h3.1 _ _ ha), SqL.of (h3.1 _ _ hb)⟩) ?_ ?_
          · rintro i x H3 H4 hi ⟨s3, d3⟩ ⟨T2, x1, x2, rfl, nT2, rfl, f1, f2⟩
            obtain ⟨d1, hd1, r1⟩ := hs.get f1
            obtain ⟨d2, hd2, r2⟩ := ht.get f2
            rw [hd1] at hd2
            cases hd2
            have sT : Same H3 (upd H3 T2 (.tup [x1, x2])) := same_upd nT2
            refine ⟨T2, _, rfl, SqT.of upd_same, rfl, _, _, rfl, _, _, rfl, rfl, rfl, x1, rfl, x2, rfl, x1, x2, d1, rfl, r1.same (Same.trans s3 sT), r2.same (Same.trans s3 sT), hfit.2 d1 (List.mem_of_getElem? hd1), fun H5 s5 => ?_⟩
            have d5 := s5 _ _ (sT _ _ d3)
            refine ⟨_, d5, ?_, fun c o e => ?_, ?_⟩
            · rw [List.length_map, List.length_replicate]
              exact small1000 (by omega)
            · rw [upd_ne (fun z => by subst z; rw [nD] at e; cases e)]
              exact s5 _ _ (sT _ _ (s3 _ _ e))
            · rw [upd_same, List.replicate_succ', List.map_append]
              rfl
          · rintro H3 ⟨s3, d3⟩
            refine ⟨D, _, rfl, SqL.of d3, ?_⟩
            rw [all_true]
            exact q _ (Same.trans s1 s3)
      | tup ha hs =>
        rename_i a xs ds
        cases hv1 with
        | tup hb ht =>
          rename_i b' ys
          obtain ⟨n', rfl⟩ : ∃ n', n = n' + 1 := by
            cases n with
            | zero => exact hfit.elim
            | succ n' => exact ⟨n', rfl⟩
          have hl1 := hs.length
          have hl2 := ht.length
          have hf1 : ds.length ≤ 1000 := hfit.1
          refine ⟨_, T, _, .type "tuple", _, _, rfl, htT, .cons (.ty _) (.cons (.ty _) .nil), .base (.tup hb), kitA (x := false) (y := true) (by decide +kernel) (by decide +kernel), _, rfl, ?_⟩
          refine ⟨.ref a, rfl, _, _, .type "tuple", _, false, rfl, .ty _, .base (.tup ha), kit_ty (by decide +kernel), .ref b', rfl, _, _, .type "tuple", _, false, rfl, .ty _, .base (.tup hb), kit_ty (by decide +kernel), rfl, _, rfl, iteNS rfl ?_⟩
          refine ⟨.ref a, rfl, _, _, .type "tuple", _, true, rfl, .ty _, .base (.tup ha), kit_ty (by decide +kernel), .ref b', rfl, _, _, .type "tuple", _, true, rfl, .ty _, .base (.tup hb), kit_ty (by decide +kernel), rfl, _, rfl, iteNS rfl ?_⟩
          refine ⟨.ref a, rfl, a, xs, rfl, .inr (SqT.of ha), .ref b', rfl, b', ys, rfl, .inr (SqT.of hb), rfl, _, rfl, ?_⟩
          rw [show decide (V.int (xs.length : Int) = V.int (ys.length : Int)) = true from decide_eq_true (by rw [hl1, hl2])]
          refine ⟨.ref a, rfl, .ref b', rfl, a, b', xs, ys, rfl, .inr ⟨SqT.of ha, SqT.of hb, fun D nD => ?_⟩⟩
          refine lc_it (walk_zipT (xs := xs) (ys := ys) rfl) (fun i H3 => Same H1 H3 ∧ H3 D = some (.lst ((List.replicate i true).map V.bl))) ⟨same_upd nD, upd_same⟩ (fun i H3 _ h3 => ⟨SqT.of (h3.1 _ _ ha), SqT.of (h3.1 _ _ hb)⟩) ?_ ?_
          · rintro i x H3 H4 hi ⟨s3, d3⟩ ⟨T2, x1, x2, rfl, nT2, rfl, f1, f2⟩
            obtain ⟨d1, hd1, r1⟩ := hs.get f1
            obtain ⟨d2, hd2, r2⟩ := ht.get f2
            rw [hd1] at hd2
            cases hd2
            have sT : Same H3 (upd H3 T2 (.tup [x1, x2])) := same_upd nT2
            refine ⟨T2, _, rfl, SqT.of upd_same, rfl, _, _, rfl, _, _, rfl, rfl, rfl, x1, rfl, x2, rfl, x1, x2, d1, rfl, r1.same (Same.trans s3 sT), r2.same (Same.trans s3 sT), hfit.2 d1 (List.mem_of_getElem? hd1), fun H5 s5 => ?_⟩
            have d5 := s5 _ _ (sT _ _ d3)
            refine ⟨_, d5, ?_, fun c o e => ?_, ?_⟩
            · rw [List.length_map, List.length_replicate]
              exact small1000 (by omega)
            · rw [upd_ne (fun z => by subst z; rw [nD] at e; cases e)]
              exact s5 _ _ (sT _ _ (s3 _ _ e))
            · rw [upd_same, List.replicate_succ', List.map_append]
              rfl
          · rintro H3 ⟨s3, d3⟩
            refine ⟨D, _, rfl, SqL.of d3, ?_⟩
            rw [all_true]
            exact q _ (Same.trans s1 s3)
      | non =>
        cases hv1
        refine ⟨_, T, _, .type "NoneType", _, _, rfl, htT, .cons (.ty _) (.cons (.ty _) .nil), .base .non, kitA (x := false) (y := false) (by decide +kernel) (by decide +kernel), _, rfl, ?_⟩
        refine ⟨_, rfl, rfl, _, rfl, ?_⟩
        refine ⟨_, rfl, _, _, .type "NoneType", _, false, rfl, .ty _, .base .non, kit_ty (by decide +kernel), _, rfl, _, _, .type "NoneType", _, false, rfl, .ty _, .base .non, kit_ty (by decide +kernel), rfl, _, rfl, ?_⟩
        refine ⟨_, rfl, _, rfl, rfl, ?_⟩
        exact q _ s1
      | bl x =>
        cases hv1
        refine ⟨_, T, _, .type "bool", _, _, rfl, htT, .cons (.ty _) (.cons (.ty _) .nil), .base (.bl _), kitA (x := false) (y := false) (by decide +kernel) (by decide +kernel), _, rfl, ?_⟩
        refine ⟨_, rfl, rfl, _, rfl, ?_⟩
        refine ⟨_, rfl, by show 2 ≤ sizeLine; decide, fun T2 nT2 => ?_⟩
        refine ⟨_, T2, _, .type "bool", _, _, rfl, upd_same, .cons (.ty _) (.cons (.ty _) .nil), .base (.bl _), kitA (x := false) (y := true) (by decide +kernel) (by decide +kernel), _, rfl, ?_⟩
        refine ⟨_, rfl, _, _, .type "bool", _, true, rfl, .ty _, .base (.bl _), kit_ty (by decide +kernel), _, rfl, _, _, .type "bool", _, true, rfl, .ty _, .base (.bl _), kit_ty (by decide +kernel), rfl, _, rfl, ?_⟩
        refine ⟨_, rfl, _, rfl, rfl, ?_⟩
        rw [decide_eq_true rfl]
        exact q _ (Same.trans s1 (same_upd nT2))
      | str x =>
        cases hv1
        refine ⟨_, T, _, .type "str", _, _, rfl, htT, .cons (.ty _) (.cons (.ty _) .nil), .base (.str _), kitA (x := false) (y := false) (by decide +kernel) (by decide +kernel), _, rfl, ?_⟩
        refine ⟨_, rfl, rfl, _, rfl, ?_⟩
        refine ⟨_, rfl, by show 2 ≤ sizeLine; decide, fun T2 nT2 => ?_⟩
        refine ⟨_, T2, _, .type "str", _, _, rfl, upd_same, .cons (.ty _) (.cons (.ty _) .nil), .base (.str _), kitA (x := true) (y := false) (by decide +kernel) (by decide +kernel), _, rfl, ?_⟩
        refine ⟨_, rfl, _, _, .type "str", _, false, rfl, .ty _, .base (.str _), kit_ty (by decide +kernel), _, rfl, _, _, .type "str", _, false, rfl, .ty _, .base (.str _), kit_ty (by decide +kernel), rfl, _, rfl, ?_⟩
        refine ⟨_, rfl, _, rfl, rfl, ?_⟩
        rw [decide_eq_true rfl]
        exact q _ (Same.trans s1 (same_upd nT2))
      | int x =>
        cases hv1
        refine ⟨_, T, _, .type "int", _, _, rfl, htT, .cons (.ty _) (.cons (.ty _) .nil), .base (.int _), kitA (x := false) (y := false) (by decide +kernel) (by decide +kernel), _, rfl, ?_⟩
        refine ⟨_, rfl, rfl, _, rfl, ?_⟩
        refine ⟨_, rfl, by show 2 ≤ sizeLine; decide, fun T2 nT2 => ?_⟩
        refine ⟨_, T2, _, .type "int", _, _, rfl, upd_same, .cons (.ty _) (.cons (.ty _) .nil), .base (.int _), kitA (x := false) (y := false) (by decide +kernel) (by decide +kernel), _, rfl, ?_⟩
        refine ⟨_, rfl, _, _, .type "int", _, true, rfl, .ty _, .base (.int _), kit_ty (by decide +kernel), _, rfl, ?_⟩
        refine ⟨_, rfl, _, _, .type "int", _, false, rfl, .ty _, .base (.int _), kit_ty (by decide +kernel), _, rfl, _, rfl, ?_⟩
        refine ⟨_, rfl, _, rfl, rfl, ?_⟩
        rw [decide_eq_true rfl]
        exact q _ (Same.trans s1 (same_upd nT2))
end
end Sg

namespace Sg
open PySem PySem.Spec PyProof.Rows L2
/-! ### texts that rise -/
def ltS (a b : Str) : Prop := a.cps.toList < b.cps.toList
instance (a b : Str) : Decidable (ltS a b) := inferInstanceAs (Decidable (a.cps.toList < b.cps.toList))
theorem ltS_trans {a b c : Str} (h1 : ltS a b) (h2 : ltS b c) : ltS a c := List.lt_trans h1 h2
theorem ltS_irrefl (a : Str) : ¬ ltS a a := List.lt_irrefl _
theorem str_ext {a b : Str} (h : a.cps.toList = b.cps.toList) : a = b := by
  cases a
  cases b
  have := Array.toList_inj.mp h
  simp at this
  rw [this]
theorem ltS_or {a b : Str} (h : ¬ ltS b a) (hne : a ≠ b) : ltS a b := by
  have hle : a.cps.toList ≤ b.cps.toList := List.not_lt.mp h
  rcases List.le_iff_lt_or_eq.mp hle with z | z
  · exact z
  · exact absurd (str_ext z) hne
theorem rising_pairwise : ∀ (r : List Str) (p : Str), risingS p r = true → (p :: r).Nodup → (p :: r).Pairwise ltS
  | [], p, _, _ => List.pairwise_singleton _ _
  | x :: r, p, h, hn => by
    have h : (!ltCps x.cps.toList p.cps.toList && risingS x r) = true := h
    rw [Bool.and_eq_true] at h
    have hn2 := (List.nodup_cons.mp hn)
    have ih := rising_pairwise r x h.2 hn2.2
    have hpx : ltS p x := by
      refine ltS_or (fun z => ?_) (fun e => hn2.1 (by rw [e]; exact List.mem_cons_self ..))
      have h1 := h.1
      rw [ltCps_eq, decide_eq_true (show x.cps.toList < p.cps.toList from z)] at h1
      cases h1
    refine List.Pairwise.cons (fun y hy => ?_) ih
    rcases List.mem_cons.mp hy with z | z
    · rw [z]
      exact hpx
    · exact ltS_trans hpx ((List.pairwise_cons.mp ih).1 y z)
theorem sorted_pairwise {l : List Str} (h : sortedS l = true) (hn : l.Nodup) : l.Pairwise ltS := by
  cases l with
  | nil => exact .nil
  | cons p r => exact rising_pairwise r p h hn
theorem pairwise_nodup {l : List Str} (h : l.Pairwise ltS) : l.Nodup := by
  rw [List.nodup_iff_pairwise_ne]
  refine h.imp ?_
  intro a b hab e
  subst e
  exact ltS_irrefl _ hab
/-- a list without twins, all of it among others, is no longer than these -/
theorem len_le {α : Type} [DecidableEq α] : ∀ {xs ys : List α}, xs.Nodup → (∀ x ∈ xs, x ∈ ys) → xs.length ≤ ys.length
  | [], _, _, _ => Nat.zero_le _
  | x :: xs, ys, hn, hs => by
    have hx := hs x (List.mem_cons_self ..)
    have hn2 := List.nodup_cons.mp hn
    have ih := len_le (xs := xs) (ys := ys.erase x) hn2.2 fun y hy => by
      refine (List.mem_erase_of_ne ?_).mpr (hs y (List.mem_cons_of_mem _ hy))
      intro e
      rw [e] at hy
      exact hn2.1 hy
    rw [List.length_erase_of_mem hx] at ih
    have : 0 < ys.length := List.length_pos_of_mem hx
    rw [List.length_cons]
    omega
end Sg

namespace Sg
open PySem PySem.Spec PyProof.Rows L2
abbrev sPart : Stmt := topS 11
abbrev nPart : List Str := ["_law_tape_here", "_law_some", "_law_many", "_law_left", "_law_k"]
theorem scPart : FnScope nPart ["_law_tape_here", "_law_some", "_law_many"] (defScope sPart) := ⟨rfl, rfl, rfl, by decide +kernel, rfl, by decide +kernel, by decide +kernel⟩
abbrev sFacets : Stmt := topS 13
abbrev nFacets : List Str := ["_law_tape_here", "_law_many", "_law_most", "_law_found", "_law_name", "_law_words"]
theorem scFacets : FnScope nFacets ["_law_tape_here", "_law_many", "_law_most"] (defScope sFacets) := ⟨rfl, rfl, rfl, by decide +kernel, rfl, by decide +kernel, by decide +kernel⟩
theorem eraseIdx_map' {α β : Type} (f : α → β) : ∀ (xs : List α) (j : Nat), (xs.map f).eraseIdx j = (xs.eraseIdx j).map f
  | [], _ => rfl
  | _ :: _, 0 => rfl
  | x :: xs, j + 1 => by
    show f x :: (xs.map f).eraseIdx j = f x :: (xs.eraseIdx j).map f
    rw [eraseIdx_map' f xs j]
theorem erase_perm {α : Type} : ∀ (zs : List α) (j : Nat) (h : j < zs.length), (zs[j] :: zs.eraseIdx j).Perm zs
  | x :: zs, 0, _ => .refl _
  | x :: zs, j + 1, h => (List.Perm.swap x (zs[j]'(Nat.lt_of_succ_lt_succ h)) (zs.eraseIdx j)).trans ((erase_perm zs j (Nat.lt_of_succ_lt_succ h)).cons x)
theorem Ex.upd_free {t p : Addr} {H H' : Hp} {o : HO} (s : Ex t H H') (h : H p = none) : Ex t H (L2.upd H' p o) := fun c u n e => by
  rw [upd_ne (fun q => by subst q; rw [h] at e; cases e)]
  exact s c u n e
abbrev rLen (K : PySem.W.Frag) : List V → Hp → VK → Prop := fun xs H Q => ∃ p ys, xs = [.ref p] ∧ (SqL K H p ys ∨ SqT K H p ys) ∧ Q (.int ys.length) H
abbrev rTupOf (K : PySem.W.Frag) : List V → Hp → VK → Prop := fun xs H Q => ∃ p ys, xs = [.ref p] ∧ ((SqL K H p ys ∧ ∀ l, H l = none → Q (.ref l) (upd H l (.tup ys))) ∨ (SqT K H p ys ∧ Q (.ref p) H))
section
variable {P : Program} {w : World} {K : PySem.W.Frag} {mg : Str → Option Value} {base : Heap}
def spPart : Sp := fun vs H Q _ => ∃ (α : Type) (d : α → PyData) (l : List α) (t a : Addr) (xs : List V) (m n : Nat), vs = [.ref t, .ref a, .int (m : Int)] ∧ (H a = some (.tup xs) ∨ H a = some (.lst xs)) ∧ RpAll H xs (l.map d) ∧ (∀ x, imm (d x) = true) ∧ m ≤ l.length ∧ l.length ≤ 300 ∧ TapeAt H t n ∧ n ≤ 900000 ∧
  ∀ (p : Addr) (H' : Hp) (us : List V) (ys rest : List α), Ex t H H' → TapeAt H' t (n + m) → H p = none → H' p = some (.lst us) → RpAll H' us (ys.map d) → ys.length = m → (ys ++ rest).Perm l → Q (.ref p) H'
theorem ok_part {f fD : Addr} {fd fdD : FuncData} {k : Nat} (F : Fun K "_law_part" "_law_part" sPart f fd) (FD : Fun K "_law_draw" "_law_draw" sDraw fD fdD) (bD : Binds K fdD ["_law_tape_here", "_law_many"] []) (gD : mg "_law_draw" = some (.ref fD))
    (ml : mg "len" = none) (mr : mg "range" = none) (mls : mg "list" = none) : FnOk P w K mg base CX0 (k + 2) f fd ["_law_tape_here", "_law_some", "_law_many"] spPart := by
  have GD : FnOk P w K mg base CX0 (k + 1) fD fdD ["_law_tape_here", "_law_many"] spDraw := ok_draw FD
  refine F.ok scPart (fun vs H Q E h => ?_) (fun cdv A outer s H vs Q E hr h => ?_)
  · obtain ⟨α, d, l, t, a, xs, m, n, rfl, _⟩ := h
    rfl
  · obtain ⟨α, d, l, t, a, xs, m, n, rfl, hv, hxs, himm, hm, hw, hT, hn, q⟩ := h
    refine ⟨_, pss_cons (ps_set (i := 3) scPart.nd rfl (.inr rfl) (pe_callTy call_list_of (by rfl) mls (by decide +kernel) (pa_cons (pv 1) pa_nil)))
      (pss_one (ps_ret (pe_lc (own := [("_law_k", 4)]) (g := gName 4) (tt := tYes) (te := tBM K "list" rPopAt (tVar 3) (tCons (tCall spDraw [] E0 (tCons (tVar 0) (tCons (tCB (rLen K) (tCons (tVar 3) tNil)) tNil))) tNil)) rfl scPart.nd (pi_range1 rfl mr (pa_cons (pv 2) pa_nil)) (blkOk_by (N := nPart) (sc := defScope sPart) (by decide +kernel))
          (fun _ _ _ _ _ => pg_name (i := 4) scPart.nd rfl (.inl rfl)) (fun _ _ _ _ _ => pts_nil) (fun _ _ _ _ _ => pe_bm PySem.F.plainAttrs_list PySem.F.slot_list_pop PySem.F.type_list_pop mt_popAt (pv 3) (pa_cons (pe_call GD hr (by rfl) gD FD.kp bD .nil pass0 (pa_cons (pv 0) (pa_cons (pe_callB call_len_seq (by rfl) ml PySem.boot_len (pa_cons (pv 3) pa_nil)) pa_nil))) pa_nil))))), ?_⟩
    refine ⟨.ref a, rfl, a, xs, rfl, hv.elim (fun e => .inr (SqT.of e)) (fun e => .inl (SqL.of e)), fun lf nl => ?_⟩
    have nlt := hT.ne_none nl
    refine ⟨.int (m : Int), rfl, (m : Int), rfl, by omega, by omega, fun D nD => ?_⟩
    have sm1 : Same H (upd H lf (.lst xs)) := same_upd nl
    have nDl : D ≠ lf := fun e => by
      subst e
      rw [upd_same] at nD
      cases nD
    have nDH : H D = none := sm1.free nD
    have nDt := hT.ne_none nDH
    have sm2 : Same H (upd (upd H lf (.lst xs)) D (.lst [])) := Same.trans sm1 (same_upd nD)
    have hxl := hxs.length
    rw [List.length_map] at hxl
    refine lc_it (walk_range (lo := 0) (n := (m : Int).toNat)) (fun i H3 => ∃ (us rs : List V) (ys zs : List α), Ex t H H3 ∧ TapeAt H3 t (n + i) ∧ H3 lf = some (.lst rs) ∧ RpAll H3 rs (zs.map d) ∧ zs.length + i = l.length ∧ H3 D = some (.lst us) ∧ RpAll H3 us (ys.map d) ∧ ys.length = i ∧ (ys ++ zs).Perm l) ?_ (fun _ _ _ _ => trivial) ?_ ?_
    · refine ⟨[], xs, [], l, Same.ex sm2, (hT.same sm2).mono (by omega), ?_, hxs.same sm2, rfl, upd_same, .nil, rfl, .refl _⟩
      rw [upd_ne nDl.symm, upd_same]
    · rintro i x H4 H3 hi ⟨us, rs, ys, zs, x3, T3, e3, r3, l3, d3, rd, ld, pm⟩ ⟨rfl, rfl⟩
      rw [Int.toNat_natCast] at hi
      have hrl := r3.length
      rw [List.length_map] at hrl
      refine ⟨rfl, .ref lf, rfl, .inl ⟨rfl, _, SqL.of e3⟩, .ref t, rfl, .ref lf, rfl, lf, _, rfl, .inl (SqL.of e3), t, _, n + i, rfl, by omega, by omega, T3, by omega, fun r H5 x5 T5 h50 h51 => ?_⟩
      have e5 := x5 lf _ nlt e3
      have d5 := x5 D _ nDt d3
      obtain ⟨j, rfl⟩ : ∃ j : Nat, r = j := ⟨r.toNat, by omega⟩
      have hj : j < rs.length := by omega
      have hjz : j < zs.length := by omega
      have kT := T3.keepT x5
      have r5 := r3.keep kT (immAll_map himm zs)
      obtain ⟨dd, hdd, hvj⟩ := r5.get (List.getElem?_eq_getElem hj)
      rw [List.getElem?_map, List.getElem?_eq_getElem hjz] at hdd
      cases hdd
      have k1 : KeepT H5 (upd (upd H5 lf (.lst (rs.eraseIdx j))) D (.lst (us ++ [rs[j]]))) := (keepT_lst e5).trans (keepT_lst (xs := us) (by rw [upd_ne nDl]; exact d5))
      refine ⟨lf, rs, (j : Int), j, rs[j], rfl, rfl, e5, by omega, by omega, ?_, List.getElem?_eq_getElem hj, us, ?_, ?_, us ++ [rs[j]], rs.eraseIdx j, ys ++ [zs[j]], zs.eraseIdx j, ?_, ?_, ?_, ?_, ?_, upd_same, ?_, ?_, ?_⟩
      · unfold seqIndex?
        simp
        omega
      · rw [upd_ne nDl]
        exact d5
      · rw [rd.length, List.length_map, ld]
        exact small1000 (by omega)
      · exact ((x3.trans x5).upd_free nl).upd_free nDH
      · exact ((T5.upd nlt).upd nDt).mono (by omega)
      · rw [upd_ne nDl.symm, upd_same]
      · have : RpAll H5 (rs.eraseIdx j) ((zs.eraseIdx j).map d) := by
          rw [← eraseIdx_map', List.eraseIdx_eq_take_drop_succ, List.eraseIdx_eq_take_drop_succ]
          exact (r5.take j).append (r5.drop (j + 1))
        exact this.keep k1 (immAll_map himm _)
      · rw [List.length_eraseIdx_of_lt hjz]
        omega
      · rw [List.map_append]
        exact ((rd.keep kT (immAll_map himm ys)).keep k1 (immAll_map himm ys)).append (.cons (hvj.keep k1 (himm _)) .nil)
      · rw [List.length_append, ld]
        rfl
      · refine List.Perm.trans ?_ pm
        rw [List.append_assoc]
        exact (erase_perm zs j hjz).append_left ys
    · rintro H3 ⟨us, rs, ys, zs, x3, T3, e3, r3, l3, d3, rd, ld, pm⟩
      rw [Int.toNat_natCast] at T3 ld
      exact q _ _ us ys zs x3 T3 nDH d3 rd ld pm
/-- facets as they are drawn -/
def FOk (fs : List (Str × List Str)) : Prop := ∀ p ∈ fs, Wd p.1 ∧ 2 ≤ p.2.length ∧ p.2.length ≤ 4 ∧ (∀ x ∈ p.2, Wd x) ∧ p.2.Pairwise ltS
def spFacets : Sp := fun vs H Q _ => ∃ (t : Addr) (m n : Nat) (s : Int), vs = [.ref t, .int (m : Int), .int s] ∧ m ≤ 4 ∧ 2 ≤ s ∧ s ≤ 4 ∧ TapeAt H t n ∧ n ≤ 800000 ∧
  ∀ (v : V) (H' : Hp) (fs : List (Str × List Str)), Ex t H H' → TapeAt H' t (n + 100) → Rp H' v (dF fs) → fs.length = m → FOk fs → (fs.map (·.1)).Pairwise ltS → Q v H'
theorem ok_facets {f fD fN : Addr} {fd fdD fdN : FuncData} {k : Nat} (F : Fun K "_law_facets" "_law_facets" sFacets f fd) (FD : Fun K "_law_draw" "_law_draw" sDraw fD fdD) (bD : Binds K fdD ["_law_tape_here", "_law_many"] []) (gD : mg "_law_draw" = some (.ref fD))
    (FN : Fun K "_law_names" "_law_names" sNames fN fdN) (bN : Binds K fdN ["_law_tape_here", "_law_many"] []) (gN : mg "_law_names" = some (.ref fN))
    (ml : mg "len" = none) (mr : mg "range" = none) (mi : mg "int" = none) (ms : mg "sorted" = none) (mt : mg "tuple" = none) : FnOk P w K mg base CX0 (k + 3) f fd ["_law_tape_here", "_law_many", "_law_most"] spFacets := by
  have GD : FnOk P w K mg base CX0 (k + 2) fD fdD ["_law_tape_here", "_law_many"] spDraw := ok_draw FD
  have GN : FnOk P w K mg base CX0 (k + 2) fN fdN ["_law_tape_here", "_law_many"] spNames := ok_names FN FD bD gD ml mr mi
  refine F.ok scFacets (fun vs H Q E h => ?_) (fun cdv A outer s H vs Q E hr h => ?_)
  · obtain ⟨t, m, n, s, rfl, _⟩ := h
    rfl
  · obtain ⟨t, m, n, so, rfl, hm, hs0, hs1, hT, hn, q⟩ := h
    refine ⟨_, pss_cons (ps_set (i := 3) scFacets.nd rfl (.inl rfl) (pe_lst pa_nil))
      (pss_cons (ps_for PassesOwn.never rfl (pi_list (pe_callB cr_sortedS (by rfl) ms (by decide +kernel) (pa_cons (pe_call GN hr (by rfl) gN FN.kp bN .nil pass0 (pa_cons (pv 0) (pa_cons (pv 1) pa_nil))) pa_nil))) (pg_name (i := 4) scFacets.nd rfl (.inl rfl))
        (pss_cons (ps_set (i := 5) scFacets.nd rfl (.inl rfl) (pe_tupleOf (by rfl) mt (pe_callB cr_sortedS (by rfl) ms (by decide +kernel) (pa_cons (pe_call GN hr (by rfl) gN FN.kp bN .nil pass0 (pa_cons (pv 0) (pa_cons (pe_op op_add pe_int (pe_call GD hr (by rfl) gD FD.kp bD .nil pass0 (pa_cons (pv 0) (pa_cons (pe_op op_sub (pv 2) pe_int) pa_nil)))) pa_nil))) pa_nil))))
        (pss_one (ps_expr (pe_bm PySem.F.plainAttrs_list PySem.F.slot_list_append PySem.F.type_list_append mt_append (pv 3) (pa_cons (pe_tup (pa_cons (pv 4) (pa_cons (pe_ifExp (PW.pt (pw_and (pt_cmpR (op_neD hr.units) (pv 3) (pe_lst pa_nil) (nomark _)) (pw_and1 (pt_cmpR op_eq (pe_call GD hr (by rfl) gD FD.kp bD .nil pass0 (pa_cons (pv 0) (pa_cons pe_int pa_nil))) pe_int (nomark _)))))
            (pe_ix ix_tup (pe_ix ix_list (pv 3) (pe_un un_neg pe_int) (fun _ _ => rfl)) pe_int (fun _ _ => rfl)) (pv 5)) pa_nil))) pa_nil))))))
      (pss_one (ps_ret (pe_tupleOf (by rfl) mt (pv 3))))), ?_⟩
    refine ⟨Nat.zero_le _, fun l nl => ?_⟩
    have nlt := hT.ne_none nl
    refine ⟨.ref t, rfl, .int (m : Int), rfl, t, m, n, rfl, by omega, hT.upd nlt, by omega, fun p H1 ws x1 T1 np e1 l1 b1 nd1 _ => ?_⟩
    refine ⟨p, ws, rfl, SqL.of e1, by omega, fun ys p2 hperm hso np2 => ?_⟩
    have b2 : ∀ x ∈ ys, Wd x := fun x hx => b1 x (hperm.mem_iff.mp hx)
    have ly : ys.length = m := by rw [hperm.length_eq, l1]
    have hyp : ys.Pairwise ltS := sorted_pairwise hso (hperm.nodup_iff.mpr (nd1 (by omega)))
    have x1' : Ex t H H1 := (Same.ex (same_upd nl)).trans x1
    have np2t := T1.ne_none np2
    have np2H : H p2 = none := x1'.free np2t np2
    have hl1 : H1 l = some (.lst []) := x1 l _ nlt upd_same
    have nlp2 : l ≠ p2 := ne_of_none hl1 np2
    refine ⟨p2, rfl, ⟨_, SqL.of upd_same⟩, ?_⟩
    refine for_it (walk_list (xs := ys.map V.str)) (fun i σ H3 => ∃ (y4 y5 : Option V) (vs : List V) (fs : List (Str × List Str)), σ = [some (.ref t), some (.int (m : Int)), some (.int so), some (.ref l), y4, y5] ∧ Ex t H H3 ∧ TapeAt H3 t (n + 12 + 14 * i) ∧ H3 p2 = some (.lst (ys.map V.str)) ∧ H3 l = some (.lst vs) ∧ RpAll H3 vs (fs.map dP) ∧ fs.length = i ∧ FOk fs ∧ fs.map (·.1) = ys.take i) ?_ ?_ ?_ ?_
    · refine ⟨none, none, [], [], rfl, x1'.trans (Same.ex (same_upd np2)), (T1.upd np2t).mono (by omega), upd_same, ?_, .nil, rfl, (fun p hp => by cases hp), rfl⟩
      rw [upd_ne nlp2]
      exact hl1
    · rintro i σ H3 _ ⟨y4, y5, vs, fs, rfl, x3, T3, e3, d3, r3, l3, f3, fn3⟩
      exact SqL.of e3
    · rintro i x σ H4 H3 hi ⟨y4, y5, vs, fs, rfl, x3, T3, e3, d3, r3, l3, f3, fn3⟩ ⟨rfl, fx⟩
      rw [List.length_map] at hi
      rw [List.getElem?_map, List.getElem?_eq_getElem hi] at fx
      cases fx
      have hin : n + 12 + 14 * i ≤ 800100 := by omega
      refine ⟨.ref t, rfl, .ref t, rfl, .int so, rfl, so, 1, rfl, rfl, t, so - 1, _, rfl, by omega, by omega, T3, by omega, fun r H5 x5 T5 h50 h51 => ?_⟩
      obtain ⟨r', rfl⟩ : ∃ r' : Nat, r = r' := ⟨r.toNat, by omega⟩
      refine ⟨2, (r' : Int), rfl, rfl, t, 2 + r', _, by rfl, by omega, T5, by omega, fun p3 H6 us x6 T6 np3 e6 l6 b6 nd6 _ => ?_⟩
      refine ⟨p3, us, rfl, SqL.of e6, by omega, fun zs p4 hperm2 hso2 np4 => .inl ⟨p4, _, rfl, SqL.of upd_same, fun p5 np5 => ?_⟩⟩
      have lz : zs.length = 2 + r' := by rw [hperm2.length_eq, l6]
      have hzp : zs.Pairwise ltS := sorted_pairwise hso2 (hperm2.nodup_iff.mpr (nd6 (by omega)))
      have bz : ∀ x ∈ zs, Wd x := fun x hx => b6 x (hperm2.mem_iff.mp hx)
      have np4t := T6.ne_none np4
      have T7 := T6.upd (o := .lst (zs.map V.str)) np4t
      have np5t := T7.ne_none np5
      have T8 := T7.upd (o := .tup (zs.map V.str)) np5t
      have sm : Same H6 (upd (upd H6 p4 (.lst (zs.map V.str))) p5 (.tup (zs.map V.str))) := Same.trans (same_upd np4) (same_upd np5)
      have x8 : Ex t H3 (upd (upd H6 p4 (.lst (zs.map V.str))) p5 (.tup (zs.map V.str))) := (x5.trans x6).trans (Same.ex sm)
      have np2t' : p2 ≠ t := np2t
      have e8 := x8 _ _ np2t' e3
      have d8 := x8 _ _ nlt d3
      have r8 := r3.keep (T3.keepT x8) (immAll_map imm_dP fs)
      have hw8 : Rp (upd (upd H6 p4 (.lst (zs.map V.str))) p5 (.tup (zs.map V.str))) (.ref p5) (dW zs) := Rp.dW_mk upd_same
      have x38 := x3.trans x8
      clear hw8
      have hw8 : Rp (upd (upd H6 p4 (.lst (zs.map V.str))) p5 (.tup (zs.map V.str))) (.ref p5) (dW zs) := Rp.dW_mk upd_same
      generalize upd (upd H6 p4 (.lst (zs.map V.str))) p5 (.tup (zs.map V.str)) = H8 at *
      have fin : ∀ (H9 : Hp) (v : V) (us' : List Str) (y5' : Option V), Ex t H8 H9 → TapeAt H9 t (n + 12 + 14 * (i + 1)) → Rp H9 v (dW us') → 2 ≤ us'.length → us'.length ≤ 4 → (∀ x ∈ us', Wd x) → us'.Pairwise ltS →
          (2 ≤ sizeLine ∧ ∀ T, H9 T = none → ∃ l' xs y, V.ref l = .ref l' ∧ [V.ref T] = [y] ∧ upd H9 T (.tup [.str ys[i], v]) l' = some (.lst xs) ∧ xs.length < sizeLine ∧
            ∃ (y4 y5 : Option V) (vs : List V) (fs : List (Str × List Str)), [some (.ref t), some (.int (m : Int)), some (.int so), some (.ref l), some (.str ys[i]), y5'] = [some (.ref t), some (.int (m : Int)), some (.int so), some (.ref l), y4, y5] ∧ Ex t H (upd (upd H9 T (.tup [.str ys[i], v])) l' (.lst (xs ++ [y]))) ∧ TapeAt (upd (upd H9 T (.tup [.str ys[i], v])) l' (.lst (xs ++ [y]))) t (n + 12 + 14 * (i + 1)) ∧ (upd (upd H9 T (.tup [.str ys[i], v])) l' (.lst (xs ++ [y]))) p2 = some (.lst (ys.map V.str)) ∧ (upd (upd H9 T (.tup [.str ys[i], v])) l' (.lst (xs ++ [y]))) l = some (.lst vs) ∧ RpAll (upd (upd H9 T (.tup [.str ys[i], v])) l' (.lst (xs ++ [y]))) vs (fs.map dP) ∧ fs.length = i + 1 ∧ FOk fs ∧ fs.map (·.1) = ys.take (i + 1)) := by
        intro H9 v us' y5' x9 T9 hv hu0 hu1 hu2 hu3
        refine ⟨by decide, fun T nT => ?_⟩
        have nTt := T9.ne_none nT
        have d9 := x9 _ _ nlt d8
        have e9 := x9 _ _ np2t' e8
        have nlT : l ≠ T := ne_of_none d9 nT
        have np2T : p2 ≠ T := ne_of_none e9 nT
        have kT : KeepT H9 (upd (upd H9 T (.tup [.str ys[i], v])) l (.lst (vs ++ [.ref T]))) := (Same.keepT (same_upd nT)).trans (keepT_lst (xs := vs) (by rw [upd_ne nlT]; exact d9))
        refine ⟨l, vs, .ref T, rfl, rfl, ?_, ?_, some (.str ys[i]), y5', vs ++ [.ref T], fs ++ [(ys[i], us')], rfl, ?_, ?_, ?_, upd_same, ?_, ?_, ?_, ?_⟩
        · rw [upd_ne nlT]
          exact d9
        · rw [r8.length, List.length_map, l3]
          exact small1000 (by omega)
        · exact ((x38.trans x9).trans (Same.ex (same_upd nT))).upd_free nl
        · exact (T9.upd nTt).upd nlt
        · rw [upd_ne nlp2.symm, upd_ne np2T]
          exact e9
        · rw [List.map_append]
          refine ((r8.keep (T8.keepT x9) (immAll_map imm_dP fs)).keep kT (immAll_map imm_dP fs)).append (.cons (.tup (xs := [.str ys[i], v]) ?_ (.cons (.str _) (.cons (hv.keep kT (imm_dW us')) .nil))) .nil)
          rw [upd_ne nlT.symm, upd_same]
        · rw [List.length_append, l3]
          rfl
        · intro p hp
          rcases List.mem_append.mp hp with hp | hp
          · exact f3 p hp
          · rw [List.mem_singleton.mp hp]
            exact ⟨b2 _ (List.getElem_mem hi), hu0, hu1, hu2, hu3⟩
        · rw [List.map_append, fn3, List.take_succ_eq_append_getElem hi]
          rfl
      refine ⟨.ref l, rfl, .inl ⟨rfl, _, SqL.of d8⟩, .str ys[i], rfl, .ref l, rfl, Nat.zero_le _, fun z nz => ?_⟩
      have nzt := T8.ne_none nz
      refine ⟨.list (fs.map dP), .list [], Rp.dp (.lst (same_upd nz _ _ d8) (r8.same (same_upd nz))), Rp.dp (.lst upd_same .nil), shaped_of (canLayAll_map fun p hp => lay_dP (f3 p hp).1 (f3 p hp).2.2.2.1) (by have := depthAll_map (k := 2) (xs := fs) fun p _ => dep_dP p; show PyData.depthAll _ + 1 ≤ 64; omega), rfl, _, rfl, ?_⟩
      rw [eqv_nil_l]
      cases hfs : fs with
      | nil => exact ⟨_, rfl, fin _ _ zs _ (Same.ex (same_upd nz)) ((T8.upd nzt).mono (by omega)) (hw8.same (same_upd nz)) (by omega) (by omega) bz hzp⟩
      | cons f0 fr =>
        refine ⟨.ref t, rfl, t, 4, _, rfl, by decide, by decide, T8.upd nzt, by omega, fun r2 H9 x9 T9 h90 h91 => ⟨rfl, _, rfl, ite2 (fun h0 => ?_) (fun h0 => ?_)⟩⟩
        · have hfl : fs.length - 1 < fs.length := by rw [hfs]; simp
          have hget : (fs.map dP)[fs.length - 1]? = some (dP fs[fs.length - 1]) := by rw [List.getElem?_map, List.getElem?_eq_getElem hfl]; rfl
          have x89 : Ex t H8 H9 := (Same.ex (same_upd nz)).trans x9
          have r9 := r8.keep (T8.keepT x89) (immAll_map imm_dP fs)
          obtain ⟨v9, hv9, hr9⟩ := r9.getD hget
          have hvl := r8.length
          rw [List.length_map] at hvl
          cases hr9 with
          | tup ha hs =>
            rename_i a9 xs9
            cases hs with
            | cons h1 hs2 =>
              cases hs2 with
              | cons h2 hs3 =>
                cases hs3
                have hat : atI vs (-1) = some (.ref a9) := by
                  have hv1 : vs = vs.dropLast ++ [.ref a9] := by
                    have hne : vs ≠ [] := by intro z; rw [z] at hvl; simp at hvl; omega
                    rw [← hvl] at hv9
                    have : vs.getLast hne = .ref a9 := by
                      rw [List.getLast_eq_getElem]
                      have := List.getElem?_eq_getElem (l := vs) (i := vs.length - 1) (by rw [hvl]; exact hfl)
                      rw [this] at hv9
                      exact Option.some.inj hv9
                    rw [← this, List.dropLast_concat_getLast]
                  rw [hv1]
                  exact atI_last _ _
                have hp0 := f3 _ (List.getElem_mem hfl)
                exact ⟨.ref l, rfl, 1, rfl, l, vs, -1, .ref a9, rfl, rfl, SqL.of (x89 _ _ nlt d8), hat, a9, _, 1, _, rfl, rfl, SqT.of ha, rfl, fin _ _ _ _ x89 (T9.mono (by omega)) h2 hp0.2.1 hp0.2.2.1 hp0.2.2.2.1 hp0.2.2.2.2⟩
        · have x89 : Ex t H8 H9 := (Same.ex (same_upd nz)).trans x9
          exact ⟨_, rfl, fin _ _ zs _ x89 (T9.mono (by omega)) (hw8.keep (T8.keepT x89) (imm_dW zs)) (by omega) (by omega) bz hzp⟩
    · rintro σ H3 ⟨y4, y5, vs, fs, rfl, x3, T3, e3, d3, r3, l3, f3, fn3⟩
      rw [List.length_map, ly] at T3 l3 fn3
      refine ⟨.ref l, rfl, .inl ⟨l, _, rfl, SqL.of d3, fun z nz => ?_⟩⟩
      exact q _ _ fs (x3.trans (Same.ex (same_upd nz))) ((T3.upd (T3.ne_none nz)).mono (by omega)) (.tup upd_same (r3.same (same_upd nz))) l3 f3 (by rw [fn3, ← ly, List.take_length]; exact hyp)
end
end Sg

namespace Sg
open PySem PySem.Spec PyProof.Rows L2
/-- a case as they are drawn -/
def COk (c : List (List Str)) : Prop := c.length ≤ 4 ∧ ∀ ws ∈ c, 1 ≤ ws.length ∧ ws.length ≤ 4 ∧ ∀ x ∈ ws, Wd x
theorem Rp.dP_inv {H : Hp} {v : V} {p : Str × List Str} (h : Rp H v (dP p)) : ∃ a u, v = .ref a ∧ H a = some (.tup [.str p.1, u]) ∧ Rp H u (dW p.2) := by
  cases h with
  | tup ha hs =>
    cases hs with
    | cons h1 hs2 =>
      cases hs2 with
      | cons h2 hs3 =>
        cases hs3
        cases h1
        exact ⟨_, _, rfl, ha, h2⟩
end Sg

namespace Sg
open PySem PySem.Spec PyProof.Rows L2
/-- w is one of os -/
def isIn (os : List Str) (w : Str) : Bool := inV (V.str w) (os.map V.str)
theorem all_flat (os : List Str) : (os.map V.str).all flatV = true := by
  rw [List.all_eq_true]
  intro x hx
  obtain ⟨w, _, rfl⟩ := List.mem_map.mp hx
  rfl
theorem filter_succ {α : Type} (p : α → Bool) (xs : List α) (i : Nat) (h : i < xs.length) : (xs.take (i + 1)).filter p = (xs.take i).filter p ++ (if p xs[i] = true then [xs[i]] else []) := by
  rw [List.take_succ_eq_append_getElem h, List.filter_append]
  congr 1
  by_cases e : p xs[i] = true
  · rw [if_pos e, List.filter_cons_of_pos e]
    rfl
  · rw [if_neg e, List.filter_cons_of_neg e]
    rfl
/-- [w for w in ws if ..], ws a tuple of texts -/
theorem filt_lc {K : PySem.W.Frag} {a : Addr} {ws : List Str} (p : Str → Bool) {σ : L2.St} {vs : List Nat} {slot : Nat} {tt : TT} {H1 : Hp} {D : Addr} {Qd : Hp → Prop} (nD : H1 D = none) (ha : H1 a = some (.tup (ws.map V.str))) (hlen : ws.length ≤ 1000)
    (hw : ∀ x : V, wipe ((wipe σ vs).set slot (some x)) vs = wipe σ vs) (hv : ∀ x : V, ((wipe σ vs).set slot (some x))[slot]? = some (some x))
    (ht : ∀ (i : Nat) (h : i < ws.length) (H2 : Hp) (Q : Bool → Hp → Prop), Same H1 H2 → Q (p ws[i]) H2 → tt ((wipe σ vs).set slot (some (.str ws[i]))) H2 Q)
    (hd : ∀ H', Same H1 H' → H' D = some (.lst ((ws.filter p).map V.str)) → Qd H') :
    ∃ W : Nat → Nat → Hp → Prop, (∃ m, W 0 m (upd H1 D (.lst []))) ∧ ∀ i m H, W i m H →
      ((Itt K a).stop i H ∧ Qd H) ∨ ((Itt K a).go i H ∧ ∃ Nx : Hp → Prop, (∀ H', Nx H' → ∃ m', m' < m ∧ W (i + 1) m' H') ∧ ∀ x H', (Itt K a).yld i H x H' → gName slot x (wipe σ vs) H' fun σ2 H2 => wipe σ2 vs = wipe σ vs ∧ tt σ2 H2 fun b H3 =>
        if b = true then tVar slot σ2 H3 fun y H4 => ∃ acc, H4 D = some (.lst acc) ∧ acc.length < sizeLine ∧ Nx (upd H4 D (.lst (acc ++ [y]))) else Nx H3) := by
  refine lc_it (walk_tup (xs := ws.map V.str)) (fun i H3 => Same H1 H3 ∧ H3 D = some (.lst (((ws.take i).filter p).map V.str))) ⟨same_upd nD, upd_same⟩ (fun i H3 _ h3 => SqT.of (h3.1 _ _ ha)) ?_ ?_
  · rintro i x H4 H3 hi ⟨s3, d3⟩ ⟨rfl, fx⟩
    rw [List.length_map] at hi
    rw [List.getElem?_map, List.getElem?_eq_getElem hi] at fx
    cases fx
    refine ⟨hw _, ht i hi _ _ s3 ?_⟩
    have e := filter_succ p ws i hi
    by_cases hp : p ws[i] = true
    · rw [if_pos hp] at e ⊢
      refine ⟨_, hv _, _, d3, ?_, fun b o eb => ?_, ?_⟩
      · rw [List.length_map]
        have h1 : ((ws.take i).filter p).length ≤ (ws.take i).length := List.length_filter_le _ _
        rw [List.length_take] at h1
        exact small1000 (by omega)
      · rw [upd_ne (fun z => by subst z; rw [nD] at eb; cases eb)]
        exact s3 _ _ eb
      · rw [upd_same, e, List.map_append]
        rfl
    · rw [if_neg hp] at e ⊢
      refine ⟨s3, ?_⟩
      rw [e, List.append_nil]
      exact d3
  · rintro H3 ⟨s3, d3⟩
    rw [List.length_map, List.take_length] at d3
    exact hd _ s3 d3
/-- a list or a tuple that a name holds is walked -/
def iAny (K : PySem.W.Frag) (i : Nat) : TI := fun σ H R => ∃ v, σ[i]? = some (some v) ∧ ∃ a, v = .ref a ∧ (((∃ xs, SqL K H a xs) ∧ R (Itl K a) H) ∨ ((∃ xs, SqT K H a xs) ∧ R (Itt K a) H))
theorem pi_any {X : Cx} {tg l : Expr} {i : Nat} (hl : PE X l (tVar i)) : PI X tg l (iAny X.K i) := by
  refine ⟨fun pins s σ H R I h => ?_⟩
  obtain ⟨v, hv, a, e, h | h⟩ := h
  · exact (pi_list hl).run pins s σ H R I ⟨v, hv, a, e, h.1, h.2⟩
  · exact (pi_tup hl).run pins s σ H R I ⟨v, hv, a, e, h.1, h.2⟩
end Sg

namespace PySem
open Sem (wp)
open AutoSeq1 (wpAny_loadPart')
theorem sg_enumT (l : Addr) (its : Array Value) (n : Nat) (dct : Option Addr) (sl : Array (Option Value)) :
    Meets (Builtin.«enumerate.__new__» ⟨[.type "enumerate", .ref l], []⟩) (fun _ R s => s.heap.get? l = some { cls := .type "tuple", dict := dct, data := .seq its n, slots := sl } ∧
      R (.ok (.ret (.ref (s.heap.push { cls := .type "tuple_iterator", data := .fields #[.ref l, .int 0 0] }).objs.size)))
        { s with heap := (s.heap.push { cls := .type "tuple_iterator", data := .fields #[.ref l, .int 0 0] }).push { cls := .type "enumerate", data := .fields #[.none, .bool false, .ref s.heap.objs.size, rawInt 0, .none, .none] } }) := by
  refine .of_wp fun prog w A R s h => ?_
  obtain ⟨hp, g, d, tk, os⟩ := s
  obtain ⟨hl, h⟩ := h
  have hsub := sub_enumerate
  have hT : Heap.IsTuple (Shared.heap ⟨hp, g, d, tk, os⟩) l its := ⟨_, hl, rfl, n, rfl⟩
  wp_walk using wpAny_loadPart' hl
  refine wpAny_stack_any fun st => wpAny_pure ?_
  split
  · rename_i c _ _ _ _ _
    cases (c == Value.type "enumerate")
    · wp_walk using wpAny_loadPart' hl, wpAny_pyIter_tuple hT
      exact ⟨_, rfl, h⟩
    · wp_walk using wpAny_loadPart' hl, wpAny_pyIter_tuple hT
      exact ⟨_, rfl, h⟩
  · wp_walk using wpAny_loadPart' hl, wpAny_pyIter_tuple hT
    exact ⟨_, rfl, h⟩
section
variable {prog : Program} {w : World} {A : Around} {E : Value → Shared → Prop} {s : Shared}
theorem sg_call_enumT {l : Addr} {its : Array Value} {Q : Value → Shared → Prop} (hL : s.heap.IsTuple l its)
    (h : ∀ h', IsEnum h' (s.heap.objs.size + 1) s.heap.objs.size 0 .none → h'.IsTupleIter s.heap.objs.size l 0 → h'.objs.size = s.heap.objs.size + 2 →
      (∀ b o, s.heap.get? b = some o → h'.get? b = some o) → Q (.ref (s.heap.objs.size + 1)) { s with heap := h' }) :
    wpAny (model prog w) A (call (.type "enumerate") [.ref l]) Q E s := by
  obtain ⟨⟨c, dct, dt, sl⟩, hl, hc, n, hd⟩ := hL
  simp only at hc hd
  subst hc hd
  refine callType_new F.called_enumerate (by decide) (F.typeCall_enumerate_1 _) (F.newCall_enumerate_1 _) (fun obj => F.args_object_init_2 obj _) F.entry_enumerate_new (sg_enumT l its n dct sl) ⟨hl, ?_⟩
  have hz : (s.heap.push { cls := .type "tuple_iterator", data := .fields #[.ref l, .int 0 0] }).objs.size = s.heap.objs.size + 1 := Heap.size_push ..
  have he : IsEnum ((s.heap.push { cls := .type "tuple_iterator", data := .fields #[.ref l, .int 0 0] }).push { cls := .type "enumerate", data := .fields #[.none, .bool false, .ref s.heap.objs.size, rawInt 0, .none, .none] }) (s.heap.objs.size + 1) s.heap.objs.size 0 .none := by
    have e := Heap.get?_push_size (s.heap.push { cls := .type "tuple_iterator", data := .fields #[.ref l, .int 0 0] }) (o := { cls := .type "enumerate", data := .fields #[.none, .bool false, .ref s.heap.objs.size, rawInt 0, .none, .none] }) rfl
    rw [hz] at e
    exact e
  show _ ∧ _
  rw [hz]
  exact ⟨⟨_, he, rfl⟩, h _ he ⟨_, Heap.get?_push_of_some _ (Heap.get?_push_size _ rfl), rfl, rfl⟩ (by rw [Heap.size_push, hz]) fun b o x => Heap.get?_push_of_some _ (Heap.get?_push_of_some _ x)⟩
end
end PySem

namespace Sg
open PySem PySem.Spec PyProof.Rows L2
/-! ### enumerate(tuple) -/
def IteT (K : PySem.W.Frag) (a : Addr) : It :=
  ⟨fun i H => ∃ (xs : List V) (x : V), SqT K H a xs ∧ xs[i]? = some x,
    fun i H v H' => ∃ T x, v = .ref T ∧ H T = none ∧ H' = upd H T (.tup [.int (i : Nat), x]) ∧ ∀ xs, SqT K H a xs → xs[i]? = some x,
    fun i H => ∃ xs : List V, SqT K H a xs ∧ xs.length = i⟩
theorem apart {h : Heap} {a b : Addr} {o o' : Obj} (ha : h.get? a = some o) (hb : h.get? b = some o') (hc : o.cls ≠ o'.cls) : a ≠ b := fun e => by
  subst e
  rw [ha] at hb
  cases hb
  exact hc rfl
theorem turn_enumT {P : Program} {w : World} {K : PySem.W.Frag} {elts : List Expr} {kk : Nat} {tpos : Pos} (a e it : Addr) :
    Turn P w K (.Tuple elts kk tpos) (IteT K a) [e, it] e (fun i h => (∃ old, IsEnum h e it ((i : Nat) : Int) old) ∧ h.IsTupleIter it a i ∧ e ≠ it) where
  mem := by simp
  obj := fun i h st b hb => by
    obtain ⟨⟨old, he⟩, ⟨o, ho, hc, hd⟩, _⟩ := st
    rcases (show b = e ∨ b = it by simpa using hb) with z | z
    · rw [z]
      exact ⟨_, he, fun v q => nomatch q⟩
    · rw [z]
      exact ⟨o, ho, fun v q => by rw [hd] at q; cases q⟩
  keep := fun i h h' st k => by
    obtain ⟨⟨old, he⟩, hi, hne⟩ := st
    exact ⟨⟨old, k e (by simp) _ he⟩, hi.at fun o q => k it (by simp) o q, hne⟩
  item := by
    intro X hP hw hK hc i pins s σ H E I hf st hg
    subst hP hw hK
    obtain ⟨⟨old, he⟩, hit, hne⟩ := st
    obtain ⟨xs, x, hq, hx⟩ := hg
    obtain ⟨its, rv, p, hz⟩ := I.tuple hq
    obtain ⟨u, hu, ru⟩ := rv.get hx
    have hel : e < s.heap.objs.size := Heap.lt_size he
    have hil : it < s.heap.objs.size := by
      obtain ⟨_, q, _⟩ := hit
      exact Heap.lt_size q
    have hai : a ≠ it := by
      obtain ⟨o, ho, hco, _⟩ := p
      obtain ⟨o2, ho2, hco2, _⟩ := hit
      exact apart ho ho2 (by rw [hco, hco2]; decide)
    have hae : a ≠ e := by
      obtain ⟨o, ho, hco, _⟩ := p
      exact apart ho he (by rw [hco]; show Value.type "tuple" ≠ Value.type "enumerate"; decide)
    have hl : i < its.toArray.size := by
      rw [List.size_toArray]
      exact (List.getElem?_eq_some_iff.mp hu).1
    refine wpAny_pyNext_enum_itemD (Draws.tuple (A := X.A.in1) (show X.A.in1.handled = none from I.ok.hd hc) it a hai its.toArray) he ⟨hit, p⟩ hl hne (by simp; exact ⟨hne, fun z => hae z.symm⟩) fun x' h' tk hp ho hst hT hsz hk => ?_
    have hxu : x' = u := by
      have e1 : its.toArray[i]? = some x' := hp
      rw [List.getElem?_toArray, hu] at e1
      exact (Option.some.inj e1).symm
    subst hxu
    refine ⟨_, rfl, wpAny_letOwnedTupleGo_enum (s := { s with heap := h', toks := tk + 1 }) ho fun h'' he' sb => ?_⟩
    have hT2 : h''.get? s.heap.objs.size = some { cls := .type "tuple", data := .seq #[.int i tk, x'] } := (sb.2 _ (Nat.ne_of_gt hel)).trans hT
    have new : ObjOk X.prog X.w (upd H s.heap.objs.size (.tup [.int (i : Nat), x])) h'' s.heap.objs.size (.tup [.int (i : Nat), x]) :=
      ⟨by show 2 ≤ sizeLine; decide, [.int i tk, x'], .cons ⟨_, rfl⟩ (.cons ru .nil), ⟨_, hT2, rfl, _, rfl⟩⟩
    have I1 : Inv X pins σ (upd H s.heap.objs.size (.tup [.int (i : Nat), x])) { s with heap := h'', toks := tk + 1 } :=
      I.turnedNew (ch := [e, it]) (fun b ob hb q => (sb.2 b (fun z => hb (by simp [z]))).trans (hk b ob (fun z => hb (by simp [z])) (fun z => hb (by simp [z])) q)) hf (Nat.le_refl _) new
    refine ⟨.ref s.heap.objs.size, _, I1, rfl, ⟨_, x, rfl, I.hok.fresh (Nat.le_refl _), rfl, fun ys hy => by rw [I.tuple_inj hy hq]; exact hx⟩, ⟨⟨x', ?_⟩, hst.1.at fun o q => (sb.2 it (Ne.symm hne)).trans q, hne⟩, fun b hb => ?_⟩
    · have e1 : ((i + 1 : Nat) : Int) = (i : Int) + 1 := by omega
      rw [e1]
      exact he'
    · have hb' : b < s.heap.objs.size := by
        rcases (show b = e ∨ b = it by simpa using hb) with z | z
        · rw [z]
          exact hel
        · rw [z]
          exact hil
      rw [upd_ne (Nat.ne_of_lt hb')]
      exact (hf b hb).1
  done := by
    intro X hP hw hK hc i pins s σ H E I hf st hg
    subst hP hw hK
    obtain ⟨⟨old, he⟩, hit, hne⟩ := st
    obtain ⟨xs, hq, hx⟩ := hg
    obtain ⟨its, rv, p, hz⟩ := I.tuple hq
    obtain ⟨f0, f1, f2, f3, f4, f5⟩ := hf it (by simp)
    have hl := rv.length
    have hai : a ≠ it := by
      obtain ⟨o, ho, hco, _⟩ := p
      obtain ⟨o2, ho2, hco2, _⟩ := hit
      exact apart ho ho2 (by rw [hco, hco2]; decide)
    have hsz : its.toArray.size = i := by rw [List.size_toArray]; omega
    refine wpAny_pyNext_enum_endD (Draws.tuple (A := X.A.in1) (show X.A.in1.handled = none from I.ok.hd hc) it a hai its.toArray) he ⟨by rw [hsz]; exact hit, p⟩ fun h' eb => ⟨rfl, I.turned (t' := s.toks) (fun b o hb q => eb b o hb q) f0 f1 f3 f4 f5⟩
  self := fun A i s Q E st h => let ⟨⟨_, he⟩, _⟩ := st; wpAny_pyIter_enum he h
def iEnumT (K : PySem.W.Frag) (ta : TA) : TI := fun σ H R => ta σ H fun vs H1 => ∃ a xs, vs = [.ref a] ∧ SqT K H1 a xs ∧ R (IteT K a) H1
theorem pi_enumT {X : Cx} {e : Expr} {ta : TA} {p pos tpos : Pos} {elts : List Expr} {kk : Nat} (hg : Gl X "enumerate") (hm : X.mg "enumerate" = none) (ha : PA X [e] ta) (hs : starEach [e] X.env = [(false, eval e X.env)] := by rfl) :
    PI X (.Tuple elts kk tpos) (.Call (.Name "enumerate" p) [e] [] pos) (iEnumT X.K ta) := by
  refine ⟨fun pins s σ H R I h => ?_⟩
  refine Call_ (ld_blt I hg hm boot_enumerate (PyProof.Rows.callWith_type1 (thn (ha.run pos pins s σ H _ I h) fun us s1 ⟨vs, H1, I1, r1, q1⟩ => ?_) hs rfl))
  obtain ⟨a, xs, ex, hq, q⟩ := q1
  subst ex
  cases r1 with
  | cons r rr =>
    cases rr
    cases r
    obtain ⟨its, rv, p', hz⟩ := I1.tuple hq
    refine sg_call_enumT p' fun h' he hit hsz hk => wpAny_pyIter_enum he ?_
    have I2 : Inv X pins σ H1 { s1 with heap := h' } := I1.kept (t' := s1.toks) hk
    refine ⟨s1.heap.objs.size + 1, [s1.heap.objs.size + 1, s1.heap.objs.size], _, _, H1, rfl, I2, turn_enumT a (s1.heap.objs.size + 1) s1.heap.objs.size, ⟨⟨.none, he⟩, hit, Nat.succ_ne_self _⟩, fun b hb => ?_, q⟩
    have hle : s1.heap.objs.size ≤ b := by
      rcases (show b = s1.heap.objs.size + 1 ∨ b = s1.heap.objs.size by simpa using hb) with z | z
      · rw [z]
        exact Nat.le_add_right _ _
      · rw [z]
        exact Nat.le_refl _
    exact I1.fpOk hle (I1.hok.fresh hle)
theorem walk_enumT {K : PySem.W.Frag} {a : Addr} {xs : List V} : Walk (IteT K a) xs.length (fun H => SqT K H a xs) (YPair (fun i => some (.int (i : Nat))) (fun i => xs[i]?)) := by
  refine ⟨fun i _ hi q => ⟨xs, xs[i], q, by simp [hi]⟩, fun _ q => ⟨xs, q, rfl⟩, fun i H v H' _ q y => ?_⟩
  obtain ⟨T, x, h1, h2, h3, h4⟩ := y
  exact ⟨T, .int (i : Nat), x, h1, h2, h3, rfl, h4 xs q⟩
end Sg

namespace Sg
open PySem PySem.Spec PyProof.Rows L2
/-! ### WHENs -/
inductive Wn where
  | always
  | is (f : Str) (ws : List Str)
  | nt (w : Wn)
  | both (a b : Wn)
  | either (a b : Wn)
def dN : Wn → PyData
  | .always => .tuple [.str (Str.ofString "always")]
  | .is f ws => .tuple [.str (Str.ofString "is"), .str f, dW ws]
  | .nt w => .tuple [.str (Str.ofString "not"), dN w]
  | .both a b => .tuple [.str (Str.ofString "both"), dN a, dN b]
  | .either a b => .tuple [.str (Str.ofString "either"), dN a, dN b]
theorem imm_dN : ∀ w, imm (dN w) = true
  | .always => rfl
  | .is f ws => by
    show (imm (.str (Str.ofString "is")) && (imm (.str f) && (imm (dW ws) && immAll []))) = true
    rw [imm_dW]
    rfl
  | .nt w => by
    show (imm (.str (Str.ofString "not")) && (imm (dN w) && immAll [])) = true
    rw [imm_dN w]
    rfl
  | .both a b => by
    show (imm (.str (Str.ofString "both")) && (imm (dN a) && (imm (dN b) && immAll []))) = true
    rw [imm_dN a, imm_dN b]
    rfl
  | .either a b => by
    show (imm (.str (Str.ofString "either")) && (imm (dN a) && (imm (dN b) && immAll []))) = true
    rw [imm_dN a, imm_dN b]
    rfl
def dep : Wn → Nat
  | .always => 1
  | .is _ _ => 1
  | .nt w => dep w + 1
  | .both a b => max (dep a) (dep b) + 1
  | .either a b => max (dep a) (dep b) + 1
theorem dep_pos : ∀ w, 1 ≤ dep w
  | .always => Nat.le_refl _
  | .is _ _ => Nat.le_refl _
  | .nt _ => Nat.succ_le_succ (Nat.zero_le _)
  | .both _ _ => Nat.succ_le_succ (Nat.zero_le _)
  | .either _ _ => Nat.succ_le_succ (Nat.zero_le _)
def WOk (fs : List (Str × List Str)) : Wn → Prop
  | .always => True
  | .is f ws => (∃ p ∈ fs, p.1 = f) ∧ ∃ p ∈ fs, p.1 = f ∧ ws ≠ [] ∧ (∀ x ∈ ws, x ∈ p.2) ∧ ws.Pairwise ltS
  | .nt w => WOk fs w
  | .both a b => WOk fs a ∧ WOk fs b
  | .either a b => WOk fs a ∧ WOk fs b
def placeM : List (Str × List Str) → Str → Nat
  | [], _ => 0
  | p :: r, f => if p.1 = f then 0 else placeM r f + 1
theorem place_ok : ∀ (fs : List (Str × List Str)) (f : Str), (∃ p ∈ fs, p.1 = f) → ∃ h : placeM fs f < fs.length, fs[placeM fs f].1 = f ∧ ∀ m (hm : m < placeM fs f) (h2 : m < fs.length), fs[m].1 ≠ f
  | [], _, h => by
    obtain ⟨p, hp, _⟩ := h
    cases hp
  | p :: r, f, h => by
    by_cases e : p.1 = f
    · have e0 : placeM (p :: r) f = 0 := if_pos e
      refine ⟨by rw [e0]; exact Nat.zero_lt_succ _, ?_, fun m hm => by rw [e0] at hm; omega⟩
      simp only [e0]
      exact e
    · have e0 : placeM (p :: r) f = placeM r f + 1 := if_neg e
      have hr : ∃ p ∈ r, p.1 = f := by
        obtain ⟨q, hq, hf⟩ := h
        rcases List.mem_cons.mp hq with z | z
        · subst z
          exact absurd hf e
        · exact ⟨q, z, hf⟩
      obtain ⟨h1, h2, h3⟩ := place_ok r f hr
      refine ⟨by rw [e0]; exact Nat.succ_lt_succ h1, ?_, fun m hm hl => ?_⟩
      · simp only [e0]
        exact h2
      · cases m with
        | zero => exact e
        | succ m => exact h3 m (by rw [e0] at hm; omega) (Nat.lt_of_succ_lt_succ hl)
def holdsM (fs : List (Str × List Str)) (s : List Str) : Wn → Bool
  | .always => true
  | .is f ws => isIn ws (s.getD (placeM fs f) Str.empty)
  | .nt w => !holdsM fs s w
  | .both a b => holdsM fs s a && holdsM fs s b
  | .either a b => holdsM fs s a || holdsM fs s b
theorem Rp.tup_inv {H : Hp} {v : V} {ds : List PyData} (h : Rp H v (.tuple ds)) : ∃ a xs, v = .ref a ∧ H a = some (.tup xs) ∧ RpAll H xs ds := by
  cases h with
  | tup ha hs => exact ⟨_, _, rfl, ha, hs⟩
theorem Rp.lst_inv {H : Hp} {a : Addr} {ds : List PyData} (h : Rp H (.ref a) (.list ds)) : ∃ xs, H a = some (.lst xs) ∧ RpAll H xs ds := by
  cases h with
  | lst ha hs => exact ⟨_, ha, hs⟩
theorem RpAll.one {H : Hp} {vs : List V} {d : PyData} (h : RpAll H vs [d]) : ∃ v, vs = [v] ∧ Rp H v d := by
  cases h with
  | cons h1 h2 =>
    cases h2
    exact ⟨_, rfl, h1⟩
theorem RpAll.two {H : Hp} {vs : List V} {d e : PyData} (h : RpAll H vs [d, e]) : ∃ v w, vs = [v, w] ∧ Rp H v d ∧ Rp H w e := by
  cases h with
  | cons h1 h2 =>
    obtain ⟨w, rfl, h3⟩ := h2.one
    exact ⟨_, w, rfl, h1, h3⟩
theorem RpAll.three {H : Hp} {vs : List V} {d e f : PyData} (h : RpAll H vs [d, e, f]) : ∃ v w u, vs = [v, w, u] ∧ Rp H v d ∧ Rp H w e ∧ Rp H u f := by
  cases h with
  | cons h1 h2 =>
    obtain ⟨w, u, rfl, h3, h4⟩ := h2.two
    exact ⟨_, w, u, rfl, h1, h3, h4⟩
theorem Rp.str_inv {H : Hp} {v : V} {x : Str} (h : Rp H v (.str x)) : v = .str x := by
  cases h
  rfl
abbrev sPlace : Stmt := topS 1
abbrev nPlace : List Str := ["facets", "facet", "name", "words"]
theorem scPlace : FnScope nPlace ["facets", "facet"] (defScope sPlace) := ⟨rfl, rfl, rfl, by decide +kernel, rfl, by decide +kernel, by decide +kernel⟩
abbrev sHolds : Stmt := topS 2
abbrev nHolds : List Str := ["facets", "when", "setting", "word", "first", "second"]
theorem scHolds : FnScope nHolds ["facets", "when", "setting"] (defScope sHolds) := ⟨rfl, rfl, rfl, by decide +kernel, rfl, by decide +kernel, by decide +kernel⟩
section
variable {P : Program} {w : World} {K : PySem.W.Frag} {mg : Str → Option Value} {base : Heap}
def spPlace : Sp := fun vs H Q _ => ∃ (v : V) (f : Str) (fs : List (Str × List Str)), vs = [v, .str f] ∧ Rp H v (dF fs) ∧ (∃ p ∈ fs, p.1 = f) ∧ fs.length ≤ 1000 ∧ ∀ H', Same H H' → Q (.int ((placeM fs f : Nat) : Int)) H'
theorem ok_place {f : Addr} {fd : FuncData} {k : Nat} (F : Fun K "place_of" "place_of" sPlace f fd) : FnOk P w K mg base CX0 (k + 1) f fd ["facets", "facet"] spPlace := by
  refine F.ok scPlace (fun vs H Q E h => ?_) (fun cdv A outer s H vs Q E hr h => ?_)
  · obtain ⟨v, f, fs, rfl, _⟩ := h
    rfl
  · obtain ⟨v, f, fs, rfl, hv, hf, hfl, q⟩ := h
    refine ⟨_, pss_one (ps_ret (pe_bm PySem.F.plainAttrs_list PySem.F.slot_list_index PySem.F.type_list_index mt_index (pe_lc (own := [("name", 2), ("words", 3)]) (g := gTup K 2 (gCons (gName 2) (gCons (gName 3) gNil))) (tt := tYes) (te := tVar 2) rfl scPlace.nd (pi_tup (pv 0)) (blkOk_by (N := nPlace) (sc := defScope sPlace) (by decide +kernel))
      (fun _ _ _ _ _ => pg_tup rfl (pgs_cons (pg_name (i := 2) scPlace.nd rfl (.inl rfl)) (pgs_cons (pg_name (i := 3) scPlace.nd rfl (.inl rfl)) pgs_nil))) (fun _ _ _ _ _ => pts_nil) (fun _ _ _ _ _ => pv 2)) (pa_cons (pv 1) pa_nil))), ?_⟩
    obtain ⟨a, vs, rfl, ha, hs⟩ := hv.tup_inv
    have hlen := hs.length
    rw [List.length_map] at hlen
    refine ⟨.ref a, rfl, a, rfl, ⟨vs, SqT.of ha⟩, fun D nD => ?_⟩
    refine lc_it (walk_tup (xs := vs)) (fun i H3 => Same H H3 ∧ H3 D = some (.lst (((fs.take i).map (·.1)).map V.str))) ⟨same_upd nD, upd_same⟩ (fun i H3 _ h3 => SqT.of (h3.1 _ _ ha)) ?_ ?_
    · rintro i x H4 H3 hi ⟨s3, d3⟩ ⟨rfl, fx⟩
      obtain ⟨d, hd, hr0⟩ := hs.get fx
      have hif : i < fs.length := by omega
      rw [List.getElem?_map, List.getElem?_eq_getElem hif] at hd
      cases hd
      obtain ⟨b, u, rfl, hb, hu⟩ := (hr0.same s3).dP_inv
      refine ⟨b, _, rfl, SqT.of hb, rfl, _, _, rfl, _, _, rfl, rfl, rfl, _, rfl, _, d3, ?_, fun c o e => ?_, ?_⟩
      · rw [List.length_map, List.length_map, List.length_take]
        exact small1000 (by omega)
      · rw [upd_ne (fun z => by subst z; rw [nD] at e; cases e)]
        exact s3 _ _ e
      · rw [upd_same, List.take_succ_eq_append_getElem hif, List.map_append, List.map_append]
        rfl
    · rintro H3 ⟨s3, d3⟩
      rw [hlen, List.take_length] at d3
      obtain ⟨h1, h2, h3⟩ := place_ok fs f hf
      refine ⟨.inl ⟨rfl, _, SqL.of d3⟩, .str f, rfl, D, _, .str f, placeM fs f, .str f, rfl, rfl, SqL.of d3, rfl, all_flat _, ?_, by simp [eqV], fun m z' hm hz => ?_, q _ s3⟩
      · rw [List.getElem?_map, List.getElem?_map, List.getElem?_eq_getElem h1]
        simp only [Option.map_some, h2]
      · have hm2 : m < fs.length := by omega
        rw [List.getElem?_map, List.getElem?_map, List.getElem?_eq_getElem hm2] at hz
        have hz : some (V.str fs[m].1) = some z' := hz
        cases hz
        have := h3 m hm hm2
        show (fs[m].1 == f) = false
        exact beq_eq_false_iff_ne.mpr this
def spHolds (n : Nat) : Sp := fun vs H Q _ => ∃ (fv wv sv : V) (fs : List (Str × List Str)) (wn : Wn) (s : List Str), vs = [fv, wv, sv] ∧ Rp H fv (dF fs) ∧ Rp H wv (dN wn) ∧ Rp H sv (dW s) ∧ WOk fs wn ∧ dep wn ≤ n ∧ s.length = fs.length ∧ fs.length ≤ 1000 ∧ ∀ H', Same H H' → Q (.bl (holdsM fs s wn)) H'
theorem ok_holds {f fP : Addr} {fd fdP : FuncData} (F : Fun K "holds" "holds" sHolds f fd) (b : Binds K fd ["facets", "when", "setting"] []) (g : mg "holds" = some (.ref f)) (FP : Fun K "place_of" "place_of" sPlace fP fdP) (bP : Binds K fdP ["facets", "facet"] []) (gP : mg "place_of" = some (.ref fP)) :
    ∀ n, FnOk P w K mg base CX0 (n + 1) f fd ["facets", "when", "setting"] (spHolds n) := by
  intro n
  induction n with
  | zero => exact ⟨fun _ _ _ _ ⟨_, _, _, _, wn, _, _, _, _, _, _, hd, _⟩ => absurd hd (by have := dep_pos wn; omega), fun _ _ _ _ _ _ _ _ _ _ _ _ _ ⟨_, _, _, _, wn, _, _, _, _, _, _, hd, _⟩ => absurd hd (by have := dep_pos wn; omega)⟩
  | succ n ih =>
    have GP : FnOk P w K mg base CX0 (n + 1) fP fdP ["facets", "facet"] spPlace := ok_place FP
    refine F.ok scHolds (fun vs H Q E h => ?_) (fun cdv A outer s H vs Q E hr h => ?_)
    · obtain ⟨fv, wv, sv, fs, wn, s, rfl, _⟩ := h
      rfl
    · obtain ⟨fv, wv, sv, fs, wn, st, rfl, hf, hw, hs, hok, hd, hl, hfl, q⟩ := h
      refine ⟨_, pss_cons (ps_set (i := 3) scHolds.nd rfl (.inl rfl) (pe_ix ix_tup (pv 1) pe_int (fun _ _ => rfl)))
        (pss_cons (ps_if (pt_cmpR op_eq (pv 3) pe_str (nomark _)) (pss_one (ps_ret pe_bl)) pss_nil)
        (pss_cons (ps_if (pt_cmpR op_eq (pv 3) pe_str (nomark _)) (pss_one (ps_ret (pe_cmpR op_in_seq (pe_ix ix_tup (pv 2) (pe_call GP hr (by rfl) gP FP.kp bP .nil pass0 (pa_cons (pv 0) (pa_cons (pe_ix ix_tup (pv 1) pe_int (fun _ _ => rfl)) pa_nil))) (fun _ _ => rfl)) (pe_ix ix_tup (pv 1) pe_int (fun _ _ => rfl)) rfl))) pss_nil)
        (pss_cons (ps_set (i := 4) scHolds.nd rfl (.inl rfl) (pe_call ih hr (by rfl) g F.kp b .nil pass0 (pa_cons (pv 0) (pa_cons (pe_ix ix_tup (pv 1) pe_int (fun _ _ => rfl)) (pa_cons (pv 2) pa_nil)))))
        (pss_cons (ps_if (pt_cmpR op_eq (pv 3) pe_str (nomark _)) (pss_one (ps_ret (pe_not (pv 4)))) pss_nil)
        (pss_cons (ps_set (i := 5) scHolds.nd rfl (.inl rfl) (pe_call ih hr (by rfl) g F.kp b .nil pass0 (pa_cons (pv 0) (pa_cons (pe_ix ix_tup (pv 1) pe_int (fun _ _ => rfl)) (pa_cons (pv 2) pa_nil)))))
        (pss_cons (ps_if (pt_cmpR op_eq (pv 3) pe_str (nomark _)) (pss_one (ps_ret (pe_and (pv 4) (pe_one (pv 5))))) pss_nil)
        (pss_one (ps_ret (pe_or (pv 4) (pe_one (pv 5))))))))))), ?_⟩
      cases wn with
      | always =>
        obtain ⟨a, xs, rfl, ha, hx⟩ := hw.tup_inv
        obtain ⟨v1, rfl, h1⟩ := hx.one
        have h1 := h1.str_inv
        subst h1
        refine ⟨.ref a, rfl, a, _, 0, _, rfl, rfl, SqT.of ha, rfl, _, rfl, rfl, _, rfl, ?_⟩
        exact q _ (Same.refl H)
      | is fc ws =>
        obtain ⟨a, xs, rfl, ha, hx⟩ := hw.tup_inv
        obtain ⟨v1, v2, v3, rfl, h1, h2, h3⟩ := hx.three
        have h1 := h1.str_inv
        have h2 := h2.str_inv
        subst h1 h2
        obtain ⟨c, rfl, hc⟩ := h3.dW_inv
        obtain ⟨sa, rfl, hsa⟩ := hs.dW_inv
        obtain ⟨hp1, hp2, hp3⟩ := place_ok fs fc hok.1
        have hpl : placeM fs fc < st.length := by omega
        refine ⟨.ref a, rfl, a, _, 0, _, rfl, rfl, SqT.of ha, rfl, _, rfl, rfl, _, rfl, ?_⟩
        refine ⟨_, rfl, rfl, _, rfl, ?_⟩
        refine ⟨.ref sa, rfl, fv, rfl, .ref a, rfl, a, _, 1, _, rfl, rfl, SqT.of ha, rfl, fv, fc, fs, rfl, hf, hok.1, hfl, fun H1 s1 => ?_⟩
        refine ⟨sa, _, _, .str st[placeM fs fc], rfl, rfl, SqT.of (s1 _ _ hsa), atI_nat (by rw [List.getElem?_map, List.getElem?_eq_getElem hpl]; rfl), .ref a, rfl, a, _, 2, _, rfl, rfl, SqT.of (s1 _ _ ha), rfl, c, _, rfl, .inr (SqT.of (s1 _ _ hc)), rfl, all_flat _, ?_⟩
        have e : holdsM fs st (.is fc ws) = isIn ws st[placeM fs fc] := by
          show isIn ws (st.getD (placeM fs fc) Str.empty) = _
          rw [List.getD, List.getElem?_eq_getElem hpl]
          rfl
        have := q _ s1
        rw [e] at this
        exact this
      | nt w1 =>
        obtain ⟨a, xs, rfl, ha, hx⟩ := hw.tup_inv
        obtain ⟨v1, v2, rfl, h1, h2⟩ := hx.two
        have h1 := h1.str_inv
        subst h1
        refine ⟨.ref a, rfl, a, _, 0, _, rfl, rfl, SqT.of ha, rfl, _, rfl, rfl, _, rfl, ?_⟩
        refine ⟨_, rfl, rfl, _, rfl, ?_⟩
        refine ⟨fv, rfl, .ref a, rfl, a, _, 1, _, rfl, rfl, SqT.of ha, rfl, sv, rfl, fv, v2, sv, fs, w1, st, rfl, hf, h2, hs, hok, Nat.le_of_succ_le_succ hd, hl, hfl, fun H1 s1 => ?_⟩
        refine ⟨_, rfl, rfl, _, rfl, ?_⟩
        exact ⟨_, rfl, _, rfl, q _ s1⟩
      | both w1 w2 =>
        obtain ⟨a, xs, rfl, ha, hx⟩ := hw.tup_inv
        obtain ⟨v1, v2, v3, rfl, h1, h2, h3⟩ := hx.three
        have h1 := h1.str_inv
        subst h1
        have hd' : max (dep w1) (dep w2) ≤ n := Nat.le_of_succ_le_succ hd
        refine ⟨.ref a, rfl, a, _, 0, _, rfl, rfl, SqT.of ha, rfl, _, rfl, rfl, _, rfl, ?_⟩
        refine ⟨_, rfl, rfl, _, rfl, ?_⟩
        refine ⟨fv, rfl, .ref a, rfl, a, _, 1, _, rfl, rfl, SqT.of ha, rfl, sv, rfl, fv, v2, sv, fs, w1, st, rfl, hf, h2, hs, hok.1, by omega, hl, hfl, fun H1 s1 => ?_⟩
        refine ⟨_, rfl, rfl, _, rfl, ?_⟩
        refine ⟨fv, rfl, .ref a, rfl, a, _, 2, _, rfl, rfl, SqT.of (s1 _ _ ha), rfl, sv, rfl, fv, v3, sv, fs, w2, st, rfl, hf.same s1, h3.same s1, hs.same s1, hok.2, by omega, hl, hfl, fun H2 s2 => ?_⟩
        refine ⟨_, rfl, rfl, _, rfl, ?_⟩
        have hq := q _ (Same.trans s1 s2)
        have e : holdsM fs st (.both w1 w2) = (holdsM fs st w1 && holdsM fs st w2) := rfl
        rw [e] at hq
        refine ⟨_, rfl, _, rfl, ?_⟩
        cases hb : holdsM fs st w1 with
        | true =>
          rw [hb, Bool.true_and] at hq
          exact ⟨_, rfl, hq⟩
        | false =>
          rw [hb, Bool.false_and] at hq
          exact hq
      | either w1 w2 =>
        obtain ⟨a, xs, rfl, ha, hx⟩ := hw.tup_inv
        obtain ⟨v1, v2, v3, rfl, h1, h2, h3⟩ := hx.three
        have h1 := h1.str_inv
        subst h1
        have hd' : max (dep w1) (dep w2) ≤ n := Nat.le_of_succ_le_succ hd
        refine ⟨.ref a, rfl, a, _, 0, _, rfl, rfl, SqT.of ha, rfl, _, rfl, rfl, _, rfl, ?_⟩
        refine ⟨_, rfl, rfl, _, rfl, ?_⟩
        refine ⟨fv, rfl, .ref a, rfl, a, _, 1, _, rfl, rfl, SqT.of ha, rfl, sv, rfl, fv, v2, sv, fs, w1, st, rfl, hf, h2, hs, hok.1, by omega, hl, hfl, fun H1 s1 => ?_⟩
        refine ⟨_, rfl, rfl, _, rfl, ?_⟩
        refine ⟨fv, rfl, .ref a, rfl, a, _, 2, _, rfl, rfl, SqT.of (s1 _ _ ha), rfl, sv, rfl, fv, v3, sv, fs, w2, st, rfl, hf.same s1, h3.same s1, hs.same s1, hok.2, by omega, hl, hfl, fun H2 s2 => ?_⟩
        refine ⟨_, rfl, rfl, _, rfl, ?_⟩
        have hq := q _ (Same.trans s1 s2)
        have e : holdsM fs st (.either w1 w2) = (holdsM fs st w1 || holdsM fs st w2) := rfl
        rw [e] at hq
        refine ⟨_, rfl, _, rfl, ?_⟩
        cases hb : holdsM fs st w1 with
        | false =>
          rw [hb, Bool.false_or] at hq
          exact ⟨_, rfl, hq⟩
        | true =>
          rw [hb, Bool.true_or] at hq
          exact hq
end
end Sg

namespace Sg
open PySem PySem.Spec PyProof.Rows L2
abbrev sLHolds : Stmt := topS 21
abbrev nLHolds : List Str := ["_law_a_facets", "_law_when_here", "_law_a_setting", "_law_word", "_law_one", "_law_other", "_law_k", "_law_pair"]
theorem scLHolds : FnScope nLHolds ["_law_a_facets", "_law_when_here", "_law_a_setting"] (defScope sLHolds) := ⟨rfl, rfl, rfl, by decide +kernel, rfl, by decide +kernel, by decide +kernel⟩
section
variable {P : Program} {w : World} {K : PySem.W.Frag} {mg : Str → Option Value} {base : Heap}
theorem ok_lholds {f : Addr} {fd : FuncData} (F : Fun K "_law_holds" "_law_holds" sLHolds f fd) (b : Binds K fd ["_law_a_facets", "_law_when_here", "_law_a_setting"] []) (g : mg "_law_holds" = some (.ref f)) (me : mg "enumerate" = none) :
    ∀ n, FnOk P w K mg base CX0 (n + 1) f fd ["_law_a_facets", "_law_when_here", "_law_a_setting"] (spHolds n) := by
  intro n
  induction n with
  | zero => exact ⟨fun _ _ _ _ ⟨_, _, _, _, wn, _, _, _, _, _, _, hd, _⟩ => absurd hd (by have := dep_pos wn; omega), fun _ _ _ _ _ _ _ _ _ _ _ _ _ ⟨_, _, _, _, wn, _, _, _, _, _, _, hd, _⟩ => absurd hd (by have := dep_pos wn; omega)⟩
  | succ n ih =>
    refine F.ok scLHolds (fun vs H Q E h => ?_) (fun cdv A outer s H vs Q E hr h => ?_)
    · obtain ⟨fv, wv, sv, fs, wn, s, rfl, _⟩ := h
      rfl
    · obtain ⟨fv, wv, sv, fs, wn, st, rfl, hf, hw, hs, hok, hd, hl, hfl, q⟩ := h
      refine ⟨_, pss_cons (ps_set (i := 3) scLHolds.nd rfl (.inl rfl) (pe_ix ix_tup (pv 1) pe_int (fun _ _ => rfl)))
        (pss_cons (ps_if (pt_cmpR op_eq (pv 3) pe_str (nomark _)) (pss_one (ps_ret (pe_ix ix_list (pe_lc (own := [("_law_k", 6), ("_law_pair", 7)]) (g := gTup K 2 (gCons (gName 6) (gCons (gName 7) gNil))) (tt := tTest (tOp rEq (tOp (rIxT K) (tVar 7) (tC (.int 0))) (tOp (rIxT K) (tVar 1) (tC (.int 1))))) (te := tOp (rIn K false) (tOp (rIxT K) (tVar 2) (tVar 6)) (tOp (rIxT K) (tVar 1) (tC (.int 2)))) rfl scLHolds.nd (pi_enumT (by rfl) me (pa_cons (pv 0) pa_nil)) (blkOk_by (N := nLHolds) (sc := defScope sLHolds) (by decide +kernel))
            (fun _ _ _ _ _ => pg_tup rfl (pgs_cons (pg_name (i := 6) scLHolds.nd rfl (.inl rfl)) (pgs_cons (pg_name (i := 7) scLHolds.nd rfl (.inl rfl)) pgs_nil))) (fun _ _ _ _ _ => pts_one (pt_cmpR op_eq (pe_ix ix_tup (pv 7) pe_int (fun _ _ => rfl)) (pe_ix ix_tup (pv 1) pe_int (fun _ _ => rfl)) (nomark _)))
            (fun _ _ _ _ _ => pe_cmpR op_in_seq (pe_ix ix_tup (pv 2) (pv 6) (fun _ _ => rfl)) (pe_ix ix_tup (pv 1) pe_int (fun _ _ => rfl)) rfl)) pe_int (fun _ _ => rfl)))) pss_nil)
        (pss_cons (ps_if (pt_cmpR op_in_seq (pv 3) (pe_tup (pa_cons pe_str (pa_cons pe_str pa_nil))) rfl) (pss_one (ps_ret (pe_or (pe_cmpR op_eq (pv 3) pe_str (nomark _)) (pe_one (pe_not (pe_call ih hr (by rfl) g F.kp b .nil pass0 (pa_cons (pv 0) (pa_cons (pe_ix ix_tup (pv 1) pe_int (fun _ _ => rfl)) (pa_cons (pv 2) pa_nil))))))))) pss_nil)
        (pss_cons (ps_par (i := 4) (j := 5) rfl scLHolds.nd rfl rfl (by decide) rfl rfl (pa_cons (pe_call ih hr (by rfl) g F.kp b .nil pass0 (pa_cons (pv 0) (pa_cons (pe_ix ix_tup (pv 1) pe_int (fun _ _ => rfl)) (pa_cons (pv 2) pa_nil)))) (pa_cons (pe_call ih hr (by rfl) g F.kp b .nil pass0 (pa_cons (pv 0) (pa_cons (pe_ix ix_tup (pv 1) pe_int (fun _ _ => rfl)) (pa_cons (pv 2) pa_nil)))) pa_nil)) rfl)
        (pss_one (ps_ret (pe_ifExp (pt_cmpR op_eq (pv 3) pe_str (nomark _)) (pe_and (pv 4) (pe_one (pv 5))) (pe_or (pv 4) (pe_one (pv 5))))))))), ?_⟩
      cases wn with
      | always =>
        obtain ⟨a, xs, rfl, ha, hx⟩ := hw.tup_inv
        obtain ⟨v1, rfl, h1⟩ := hx.one
        have h1 := h1.str_inv
        subst h1
        refine ⟨.ref a, rfl, a, _, 0, _, rfl, rfl, SqT.of ha, rfl, _, rfl, rfl, _, rfl, ?_⟩
        refine ⟨_, rfl, by show 2 ≤ sizeLine; decide, fun p np => ⟨p, _, rfl, .inr (SqT.of upd_same), rfl, rfl, _, rfl, ?_⟩⟩
        refine ⟨_, rfl, rfl, _, rfl, ?_⟩
        exact q _ (same_upd np)
      | is fc ws =>
        obtain ⟨a, xs, rfl, ha, hx⟩ := hw.tup_inv
        obtain ⟨v1, v2, v3, rfl, h1, h2, h3⟩ := hx.three
        have h1 := h1.str_inv
        have h2 := h2.str_inv
        subst h1 h2
        obtain ⟨c, rfl, hc⟩ := h3.dW_inv
        obtain ⟨sa, rfl, hsa⟩ := hs.dW_inv
        obtain ⟨hp1, hp2, hp3⟩ := place_ok fs fc hok.1
        have hpl : placeM fs fc < st.length := by omega
        obtain ⟨fa, fxs, rfl, hfa, hfx⟩ := hf.tup_inv
        have hlen := hfx.length
        rw [List.length_map] at hlen
        have e : holdsM fs st (.is fc ws) = isIn ws st[placeM fs fc] := by
          show isIn ws (st.getD (placeM fs fc) Str.empty) = _
          rw [List.getD, List.getElem?_eq_getElem hpl]
          rfl
        refine ⟨.ref a, rfl, a, _, 0, _, rfl, rfl, SqT.of ha, rfl, _, rfl, rfl, _, rfl, ?_⟩
        refine ⟨.ref fa, rfl, fa, fxs, rfl, SqT.of hfa, fun D nD => ?_⟩
        refine lc_it (walk_enumT (xs := fxs)) (fun i H3 => ∃ bs : List Bool, Same H H3 ∧ H3 D = some (.lst (bs.map V.bl)) ∧ bs.length ≤ i ∧ (i ≤ placeM fs fc → bs = []) ∧ (placeM fs fc < i → ∃ r, bs = isIn ws st[placeM fs fc] :: r)) ⟨[], same_upd nD, upd_same, Nat.le_refl _, fun _ => rfl, fun h => absurd h (by omega)⟩ (fun i H3 _ h3 => let ⟨_, s3, _⟩ := h3; SqT.of (s3 _ _ hfa)) ?_ ?_
        · rintro i x H3 H4 hi ⟨bs, s3, d3, lb, b0, b1⟩ ⟨T, x1, x2, rfl, nT, rfl, f1, f2⟩
          cases f1
          have hif : i < fs.length := by omega
          have his : i < st.length := by omega
          obtain ⟨dd, hdd, r2⟩ := hfx.get f2
          rw [List.getElem?_map, List.getElem?_eq_getElem hif] at hdd
          cases hdd
          have sT : Same H3 (upd H3 T (.tup [.int (i : Nat), x2])) := same_upd nT
          have sA := Same.trans s3 sT
          obtain ⟨pb, pu, rfl, hpb, hpu⟩ := (r2.same sA).dP_inv
          refine ⟨T, _, rfl, SqT.of upd_same, rfl, _, _, rfl, _, _, rfl, rfl, rfl, .ref pb, rfl, pb, _, 0, _, rfl, rfl, SqT.of hpb, rfl, .ref a, rfl, a, _, 1, _, rfl, rfl, SqT.of (sA _ _ ha), rfl, rfl, _, rfl, ite2 (fun hz => ?_) (fun hz => ?_)⟩
          · have hz : fs[i].1 = fc := V.str.inj (of_decide_eq_true hz)
            refine ⟨.ref sa, rfl, .int (i : Nat), rfl, sa, _, _, .str st[i], rfl, rfl, SqT.of (sA _ _ hsa), atI_nat (by rw [List.getElem?_map, List.getElem?_eq_getElem his]; rfl), .ref a, rfl, a, _, 2, _, rfl, rfl, SqT.of (sA _ _ ha), rfl, c, _, rfl, .inr (SqT.of (sA _ _ hc)), rfl, all_flat _, _, sT _ _ d3, ?_, bs ++ [isIn ws st[i]], fun b o eb => ?_, ?_, ?_, ?_, ?_⟩
            · rw [List.length_map]
              exact small1000 (by omega)
            · rw [upd_ne (fun z => by subst z; rw [nD] at eb; cases eb)]
              exact sA _ _ eb
            · rw [upd_same, List.map_append]
              rfl
            · rw [List.length_append]
              simp
              exact lb
            · intro hle
              exact absurd hz (hp3 i (by omega) hif)
            · intro hlt
              by_cases hip : placeM fs fc < i
              · obtain ⟨r, hr'⟩ := b1 hip
                exact ⟨r ++ [isIn ws st[i]], by rw [hr']; rfl⟩
              · have ei : placeM fs fc = i := by omega
                rw [b0 (by omega)]
                refine ⟨[], ?_⟩
                simp only [ei]
                rfl
          · refine ⟨bs, sA, sT _ _ d3, by omega, fun hle => b0 (by omega), fun hlt => ?_⟩
            by_cases hip : placeM fs fc < i
            · exact b1 hip
            · have ei : placeM fs fc = i := by omega
              have hne : ¬ fs[i].1 = fc := fun z => hz (decide_eq_true (by rw [z]))
              exact absurd (by have := hp2; simp only [ei] at this; exact this) hne
        · rintro H3 ⟨bs, s3, d3, lb, b0, b1⟩
          obtain ⟨r, hr'⟩ := b1 (by omega)
          refine ⟨D, _, 0, .bl (isIn ws st[placeM fs fc]), rfl, rfl, SqL.of d3, by rw [hr']; exact atI_nat (j := 0) rfl, ?_⟩
          have := q _ s3
          rw [e] at this
          exact this
      | nt w1 =>
        obtain ⟨a, xs, rfl, ha, hx⟩ := hw.tup_inv
        obtain ⟨v1, v2, rfl, h1, h2⟩ := hx.two
        have h1 := h1.str_inv
        subst h1
        refine ⟨.ref a, rfl, a, _, 0, _, rfl, rfl, SqT.of ha, rfl, _, rfl, rfl, _, rfl, ?_⟩
        refine ⟨_, rfl, by show 2 ≤ sizeLine; decide, fun p np => ⟨p, _, rfl, .inr (SqT.of upd_same), rfl, rfl, _, rfl, ?_⟩⟩
        have s0 : Same H (upd H p (.tup [.str (Str.ofString "always"), .str (Str.ofString "not")])) := same_upd np
        refine ⟨_, rfl, rfl, _, rfl, ?_⟩
        refine ⟨fv, rfl, .ref a, rfl, a, _, 1, _, rfl, rfl, SqT.of (s0 _ _ ha), rfl, sv, rfl, fv, v2, sv, fs, w1, st, rfl, hf.same s0, h2.same s0, hs.same s0, hok, Nat.le_of_succ_le_succ hd, hl, hfl, fun H1 s1 => ?_⟩
        exact ⟨_, rfl, q _ (Same.trans s0 s1)⟩
      | both w1 w2 =>
        obtain ⟨a, xs, rfl, ha, hx⟩ := hw.tup_inv
        obtain ⟨v1, v2, v3, rfl, h1, h2, h3⟩ := hx.three
        have h1 := h1.str_inv
        subst h1
        have hd' : max (dep w1) (dep w2) ≤ n := Nat.le_of_succ_le_succ hd
        refine ⟨.ref a, rfl, a, _, 0, _, rfl, rfl, SqT.of ha, rfl, _, rfl, rfl, _, rfl, ?_⟩
        refine ⟨_, rfl, by show 2 ≤ sizeLine; decide, fun p np => ⟨p, _, rfl, .inr (SqT.of upd_same), rfl, rfl, _, rfl, ?_⟩⟩
        have s0 : Same H (upd H p (.tup [.str (Str.ofString "always"), .str (Str.ofString "not")])) := same_upd np
        refine ⟨fv, rfl, .ref a, rfl, a, _, 1, _, rfl, rfl, SqT.of (s0 _ _ ha), rfl, sv, rfl, fv, v2, sv, fs, w1, st, rfl, hf.same s0, h2.same s0, hs.same s0, hok.1, by omega, hl, hfl, fun H1 s1 => ?_⟩
        have s01 := Same.trans s0 s1
        refine ⟨fv, rfl, .ref a, rfl, a, _, 2, _, rfl, rfl, SqT.of (s01 _ _ ha), rfl, sv, rfl, fv, v3, sv, fs, w2, st, rfl, hf.same s01, h3.same s01, hs.same s01, hok.2, by omega, hl, hfl, fun H2 s2 => ⟨_, _, rfl, ?_⟩⟩
        refine ⟨_, rfl, rfl, _, rfl, ?_⟩
        have hq := q _ (Same.trans s01 s2)
        have e : holdsM fs st (.both w1 w2) = (holdsM fs st w1 && holdsM fs st w2) := rfl
        rw [e] at hq
        refine ⟨_, rfl, _, rfl, ?_⟩
        cases hb : holdsM fs st w1 with
        | true =>
          rw [hb, Bool.true_and] at hq
          exact ⟨_, rfl, hq⟩
        | false =>
          rw [hb, Bool.false_and] at hq
          exact hq
      | either w1 w2 =>
        obtain ⟨a, xs, rfl, ha, hx⟩ := hw.tup_inv
        obtain ⟨v1, v2, v3, rfl, h1, h2, h3⟩ := hx.three
        have h1 := h1.str_inv
        subst h1
        have hd' : max (dep w1) (dep w2) ≤ n := Nat.le_of_succ_le_succ hd
        refine ⟨.ref a, rfl, a, _, 0, _, rfl, rfl, SqT.of ha, rfl, _, rfl, rfl, _, rfl, ?_⟩
        refine ⟨_, rfl, by show 2 ≤ sizeLine; decide, fun p np => ⟨p, _, rfl, .inr (SqT.of upd_same), rfl, rfl, _, rfl, ?_⟩⟩
        have s0 : Same H (upd H p (.tup [.str (Str.ofString "always"), .str (Str.ofString "not")])) := same_upd np
        refine ⟨fv, rfl, .ref a, rfl, a, _, 1, _, rfl, rfl, SqT.of (s0 _ _ ha), rfl, sv, rfl, fv, v2, sv, fs, w1, st, rfl, hf.same s0, h2.same s0, hs.same s0, hok.1, by omega, hl, hfl, fun H1 s1 => ?_⟩
        have s01 := Same.trans s0 s1
        refine ⟨fv, rfl, .ref a, rfl, a, _, 2, _, rfl, rfl, SqT.of (s01 _ _ ha), rfl, sv, rfl, fv, v3, sv, fs, w2, st, rfl, hf.same s01, h3.same s01, hs.same s01, hok.2, by omega, hl, hfl, fun H2 s2 => ⟨_, _, rfl, ?_⟩⟩
        refine ⟨_, rfl, rfl, _, rfl, ?_⟩
        have hq := q _ (Same.trans s01 s2)
        have e : holdsM fs st (.either w1 w2) = (holdsM fs st w1 || holdsM fs st w2) := rfl
        rw [e] at hq
        refine ⟨_, rfl, _, rfl, ?_⟩
        cases hb : holdsM fs st w1 with
        | false =>
          rw [hb, Bool.false_or] at hq
          exact ⟨_, rfl, hq⟩
        | true =>
          rw [hb, Bool.true_or] at hq
          exact hq
end
end Sg

namespace Sg
open PySem PySem.Spec PyProof.Rows L2
def bud : Nat → Nat
  | 0 => 10
  | k + 1 => 2 * bud k + 10
theorem bud_mono : ∀ {j k : Nat}, j ≤ k → bud j ≤ bud k
  | j, 0, h => by
    have : j = 0 := by omega
    rw [this]
    exact Nat.le_refl _
  | j, k + 1, h => by
    by_cases e : j = k + 1
    · rw [e]
      exact Nat.le_refl _
    · have := bud_mono (j := j) (k := k) (by omega)
      show bud j ≤ 2 * bud k + 10
      omega
abbrev sWhen : Stmt := topS 15
abbrev nWhen : List Str := ["_law_tape_here", "_law_its_facets", "_law_deep", "_law_way", "_law_facet", "_law_words", "_law_one"]
theorem scWhen : FnScope nWhen ["_law_tape_here", "_law_its_facets", "_law_deep"] (defScope sWhen) := ⟨rfl, rfl, rfl, by decide +kernel, rfl, by decide +kernel, by decide +kernel⟩
section
variable {P : Program} {w : World} {K : PySem.W.Frag} {mg : Str → Option Value} {base : Heap}
/-! ### WHENs drawn -/
def spWhen (n : Nat) : Sp := fun vs H Q _ => ∃ (t : Addr) (fv : V) (k N : Nat) (fs : List (Str × List Str)), vs = [.ref t, fv, .int (k : Int)] ∧ 1 ≤ k ∧ k ≤ n ∧ Rp H fv (dF fs) ∧ FOk fs ∧ 1 ≤ fs.length ∧ fs.length ≤ 4 ∧ TapeAt H t N ∧ N + bud k ≤ 800000 ∧
  ∀ (wv : V) (H' : Hp) (wn : Wn), Ex t H H' → TapeAt H' t (N + bud k) → Rp H' wv (dN wn) → WOk fs wn → dep wn ≤ k → Q wv H'
theorem ok_when {f fD fP : Addr} {fd fdD fdP : FuncData} (F : Fun K "_law_when" "_law_when" sWhen f fd) (b : Binds K fd ["_law_tape_here", "_law_its_facets", "_law_deep"] []) (g : mg "_law_when" = some (.ref f)) (FD : Fun K "_law_draw" "_law_draw" sDraw fD fdD) (bD : Binds K fdD ["_law_tape_here", "_law_many"] []) (gD : mg "_law_draw" = some (.ref fD))
    (FP : Fun K "_law_part" "_law_part" sPart fP fdP) (bP : Binds K fdP ["_law_tape_here", "_law_some", "_law_many"] []) (gP : mg "_law_part" = some (.ref fP))
    (ml : mg "len" = none) (mr : mg "range" = none) (mls : mg "list" = none) (ms : mg "sorted" = none) (mt : mg "tuple" = none) (mm : mg "min" = none) :
    ∀ n, FnOk P w K mg base CX0 (n + 3) f fd ["_law_tape_here", "_law_its_facets", "_law_deep"] (spWhen n) := by
  intro n
  induction n with
  | zero => exact ⟨fun _ _ _ _ ⟨_, _, k, _, _, _, h1, h2, _⟩ => absurd h1 (by omega), fun _ _ _ _ _ _ _ _ _ _ _ _ _ ⟨_, _, k, _, _, _, h1, h2, _⟩ => absurd h1 (by omega)⟩
  | succ n ih =>
    have GD : FnOk P w K mg base CX0 (n + 3) fD fdD ["_law_tape_here", "_law_many"] spDraw := ok_draw FD
    have GP : FnOk P w K mg base CX0 (n + 3) fP fdP ["_law_tape_here", "_law_some", "_law_many"] spPart := ok_part FP FD bD gD ml mr mls
    refine F.ok scWhen (fun vs H Q E h => ?_) (fun cdv A outer s H vs Q E hr h => ?_)
    · obtain ⟨t, fv, k, N, fs, rfl, _⟩ := h
      rfl
    · obtain ⟨t, fv, k, N, fs, rfl, hk1, hkn, hf, hfo, hl1, hl4, hT, hN, q⟩ := h
      refine ⟨_, pss_cons (ps_set (i := 3) scWhen.nd rfl (.inl rfl) (pe_call GD hr (by rfl) gD FD.kp bD .nil pass0 (pa_cons (pv 0) (pa_cons pe_int pa_nil))))
        (pss_cons (ps_if (PW.pt (pw_or (pt_cmpR op_lt (pv 2) pe_int (nomark _)) (pw_or1 (pt_cmpR op_lt (pv 3) pe_int (nomark _)))))
          (pss_cons (ps_if (pt_cmpR op_eq (pe_call GD hr (by rfl) gD FD.kp bD .nil pass0 (pa_cons (pv 0) (pa_cons pe_int pa_nil))) pe_int (nomark _)) (pss_one (ps_ret (pe_tup (pa_cons pe_str pa_nil)))) pss_nil)
          (pss_cons (ps_asg (pe_ix ix_tup (pv 1) (pe_call GD hr (by rfl) gD FD.kp bD .nil pass0 (pa_cons (pv 0) (pa_cons (pe_callB call_len_seq (by rfl) ml PySem.boot_len (pa_cons (pv 1) pa_nil)) pa_nil))) (fun _ _ => rfl)) (pg_tup rfl (pgs_cons (pg_name (i := 4) scWhen.nd rfl (.inl rfl)) (pgs_cons (pg_name (i := 5) scWhen.nd rfl (.inl rfl)) pgs_nil))))
          (pss_one (ps_ret (pe_tup (pa_cons pe_str (pa_cons (pv 4) (pa_cons (pe_tupleOf (by rfl) mt (pe_callB cr_sortedS (by rfl) ms (by decide +kernel) (pa_cons (pe_call GP hr (by rfl) gP FP.kp bP .nil pass0 (pa_cons (pv 0) (pa_cons (pv 5) (pa_cons (pe_op op_add pe_int (pe_call GD hr (by rfl) gD FD.kp bD .nil pass0 (pa_cons (pv 0) (pa_cons (pe_callB call_len_seq (by rfl) ml PySem.boot_len (pa_cons (pv 5) pa_nil)) pa_nil)))) pa_nil)))) pa_nil))) pa_nil)))))))) pss_nil)
        (pss_cons (ps_if (pt_cmpR op_eq (pv 3) pe_int (nomark _)) (pss_one (ps_ret (pe_tup (pa_cons pe_str (pa_cons (pe_call ih hr (by rfl) g F.kp b .nil pass0 (pa_cons (pv 0) (pa_cons (pv 1) (pa_cons (pe_op op_sub (pv 2) pe_int) pa_nil)))) pa_nil))))) pss_nil)
        (pss_cons (ps_set (i := 6) scWhen.nd rfl (.inl rfl) (pe_call ih hr (by rfl) g F.kp b .nil pass0 (pa_cons (pv 0) (pa_cons (pv 1) (pa_cons (pe_op op_sub (pv 2) pe_int) pa_nil)))))
        (pss_one (ps_ret (pe_tup (pa_cons (pe_ix ix_list (pe_lst (pa_cons pe_str (pa_cons pe_str pa_nil))) (pe_op op_mod (pv 3) pe_int) (fun _ _ => rfl)) (pa_cons (pv 6) (pa_cons (pe_call ih hr (by rfl) g F.kp b .nil pass0 (pa_cons (pv 0) (pa_cons (pv 1) (pa_cons (pe_callB (call_min2 rfl) (by rfl) mm (by decide +kernel) (pa_cons pe_int (pa_cons (pe_op op_sub (pv 2) pe_int) pa_nil))) pa_nil)))) pa_nil))))))))), ?_⟩
      have hb10 : ∀ j, 10 ≤ bud j := fun j => bud_mono (j := 0) (Nat.zero_le j)
      have hbk := hb10 k
      refine ⟨.ref t, rfl, t, 6, N, rfl, by decide, by decide, hT, by omega, fun way H1 x1 T1 hw0 hw1 => ?_⟩
      have hf1 := hf.keep (hT.keepT x1) (imm_dF fs)
      refine ⟨.int (k : Int), rfl, (k : Int), 2, rfl, rfl, _, rfl, ite2 (fun h2 => ?_) (fun h2 => ⟨.int way, rfl, way, 2, rfl, rfl, _, rfl, ite2 (fun h3 => ?_) (fun h3 => ?_)⟩)⟩
      · refine ⟨.ref t, rfl, t, 8, N + 1, rfl, by decide, by decide, T1, by omega, fun r2 H2 x2 T2 h20 h21 => ⟨rfl, _, rfl, ite2 (fun h0 => ?_) (fun h0 => ?_)⟩⟩
        · refine ⟨by show 1 ≤ sizeLine; decide, fun p np => ?_⟩
          exact q _ _ .always ((x1.trans x2).trans (Same.ex (same_upd np))) ((T2.upd (T2.ne_none np)).mono (by omega)) (.tup upd_same (.cons (.str _) .nil)) trivial hk1
        · have hf2 := hf1.keep (T1.keepT x2) (imm_dF fs)
          obtain ⟨a, xs, rfl, ha, hs⟩ := hf2.tup_inv
          have hlen := hs.length
          rw [List.length_map] at hlen
          refine ⟨.ref a, rfl, .ref t, rfl, .ref a, rfl, a, xs, rfl, .inr (SqT.of ha), t, _, N + 2, rfl, by omega, by omega, T2, by omega, fun r3 H3 x3 T3 h30 h31 => ?_⟩
          obtain ⟨j, rfl⟩ : ∃ j : Nat, r3 = j := ⟨r3.toNat, by omega⟩
          have hj : j < fs.length := by omega
          have hp := hfo _ (List.getElem_mem hj)
          have ha3 := x3 a _ (T2.ne_tup ha) ha
          obtain ⟨vj, hvj, rvj⟩ := hs.getD (show (fs.map fun p => PyData.tuple [.str p.1, dW p.2])[j]? = some (dP fs[j]) by rw [List.getElem?_map, List.getElem?_eq_getElem hj]; rfl)
          obtain ⟨pb, pu, rfl, hpb, hpu⟩ := (rvj.keep (T2.keepT x3) (imm_dP _)).dP_inv
          obtain ⟨g', rfl, hg⟩ := hpu.dW_inv
          refine ⟨a, xs, (j : Int), .ref pb, rfl, rfl, SqT.of ha3, atI_nat hvj, pb, _, rfl, SqT.of hpb, rfl, _, _, rfl, _, _, rfl, rfl, ?_⟩
          refine ⟨.str fs[j].1, rfl, .ref t, rfl, .ref g', rfl, .ref t, rfl, .ref g', rfl, g', _, rfl, .inr (SqT.of hg), t, _, N + 3, rfl, by rw [List.length_map]; omega, by rw [List.length_map]; omega, T3, by omega, fun r4 H4 x4 T4 h40 h41 => ?_⟩
          rw [List.length_map] at h41
          obtain ⟨r4', rfl⟩ : ∃ r4' : Nat, r4 = r4' := ⟨r4.toNat, by omega⟩
          obtain ⟨g2, eg2, hg4⟩ := ((Rp.dW_mk hg).keep (T3.keepT x4) (imm_dW _)).dW_inv
          cases eg2
          refine ⟨1, (r4' : Int), rfl, rfl, Str, PyData.str, fs[j].2, t, g', _, 1 + r4', N + 4, by rfl, .inl hg4, RpAll.strs _, fun _ => rfl, by omega, by omega, T4, by omega, fun p5 H5 usv us rest x5 T5 np5 e5' r5 l5 pm5 => ?_⟩
          have eus := RpAll.strs_eq r5
          subst eus
          have e5 := e5'
          have und : us.Nodup := (List.nodup_append.mp (pm5.nodup_iff.mpr (pairwise_nodup hp.2.2.2.2))).1
          have usub : ∀ x ∈ us, x ∈ fs[j].2 := fun x hx => pm5.mem_iff.mp (List.mem_append.mpr (.inl hx))
          refine ⟨p5, us, rfl, SqL.of e5, by omega, fun ys p6 hperm hso np6 => .inl ⟨p6, _, rfl, SqL.of upd_same, fun p7 np7 => ⟨by show 3 ≤ sizeLine; decide, fun p8 np8 => ?_⟩⟩⟩
          have s58 := Same.trans (same_upd (H := H5) (o := .lst (ys.map V.str)) np6) (Same.trans (same_upd (o := .tup (ys.map V.str)) np7) (same_upd (o := .tup [.str (Str.ofString "is"), .str fs[j].1, .ref p7]) np8))
          have e7 := same_upd (o := .tup [.str (Str.ofString "is"), .str fs[j].1, .ref p7]) np8 _ _ (upd_same (H := upd H5 p6 (.lst (ys.map V.str))) (a := p7) (o := .tup (ys.map V.str)))
          exact q _ _ (.is fs[j].1 ys) ((((x1.trans x2).trans x3).trans (x4.trans x5)).trans (Same.ex s58)) ((T5.same s58).mono (by omega)) (.tup upd_same (.cons (.str _) (.cons (.str _) (.cons (Rp.dW_mk e7) .nil)))) ⟨⟨_, List.getElem_mem hj, rfl⟩, _, List.getElem_mem hj, rfl, (fun z => by have := hperm.length_eq; rw [z] at this; simp at this; omega), fun x hx => usub x (hperm.mem_iff.mp hx), sorted_pairwise hso (hperm.nodup_iff.mpr und)⟩ hk1
      · refine ⟨.ref t, rfl, t, 8, N + 1, rfl, by decide, by decide, T1, by omega, fun r2 H2 x2 T2 h20 h21 => ⟨rfl, _, rfl, ite2 (fun h0 => ?_) (fun h0 => ?_)⟩⟩
        · refine ⟨by show 1 ≤ sizeLine; decide, fun p np => ?_⟩
          exact q _ _ .always ((x1.trans x2).trans (Same.ex (same_upd np))) ((T2.upd (T2.ne_none np)).mono (by omega)) (.tup upd_same (.cons (.str _) .nil)) trivial hk1
        · have hf2 := hf1.keep (T1.keepT x2) (imm_dF fs)
          obtain ⟨a, xs, rfl, ha, hs⟩ := hf2.tup_inv
          have hlen := hs.length
          rw [List.length_map] at hlen
          refine ⟨.ref a, rfl, .ref t, rfl, .ref a, rfl, a, xs, rfl, .inr (SqT.of ha), t, _, N + 2, rfl, by omega, by omega, T2, by omega, fun r3 H3 x3 T3 h30 h31 => ?_⟩
          obtain ⟨j, rfl⟩ : ∃ j : Nat, r3 = j := ⟨r3.toNat, by omega⟩
          have hj : j < fs.length := by omega
          have hp := hfo _ (List.getElem_mem hj)
          have ha3 := x3 a _ (T2.ne_tup ha) ha
          obtain ⟨vj, hvj, rvj⟩ := hs.getD (show (fs.map fun p => PyData.tuple [.str p.1, dW p.2])[j]? = some (dP fs[j]) by rw [List.getElem?_map, List.getElem?_eq_getElem hj]; rfl)
          obtain ⟨pb, pu, rfl, hpb, hpu⟩ := (rvj.keep (T2.keepT x3) (imm_dP _)).dP_inv
          obtain ⟨g', rfl, hg⟩ := hpu.dW_inv
          refine ⟨a, xs, (j : Int), .ref pb, rfl, rfl, SqT.of ha3, atI_nat hvj, pb, _, rfl, SqT.of hpb, rfl, _, _, rfl, _, _, rfl, rfl, ?_⟩
          refine ⟨.str fs[j].1, rfl, .ref t, rfl, .ref g', rfl, .ref t, rfl, .ref g', rfl, g', _, rfl, .inr (SqT.of hg), t, _, N + 3, rfl, by rw [List.length_map]; omega, by rw [List.length_map]; omega, T3, by omega, fun r4 H4 x4 T4 h40 h41 => ?_⟩
          rw [List.length_map] at h41
          obtain ⟨r4', rfl⟩ : ∃ r4' : Nat, r4 = r4' := ⟨r4.toNat, by omega⟩
          obtain ⟨g2, eg2, hg4⟩ := ((Rp.dW_mk hg).keep (T3.keepT x4) (imm_dW _)).dW_inv
          cases eg2
          refine ⟨1, (r4' : Int), rfl, rfl, Str, PyData.str, fs[j].2, t, g', _, 1 + r4', N + 4, by rfl, .inl hg4, RpAll.strs _, fun _ => rfl, by omega, by omega, T4, by omega, fun p5 H5 usv us rest x5 T5 np5 e5' r5 l5 pm5 => ?_⟩
          have eus := RpAll.strs_eq r5
          subst eus
          have e5 := e5'
          have und : us.Nodup := (List.nodup_append.mp (pm5.nodup_iff.mpr (pairwise_nodup hp.2.2.2.2))).1
          have usub : ∀ x ∈ us, x ∈ fs[j].2 := fun x hx => pm5.mem_iff.mp (List.mem_append.mpr (.inl hx))
          refine ⟨p5, us, rfl, SqL.of e5, by omega, fun ys p6 hperm hso np6 => .inl ⟨p6, _, rfl, SqL.of upd_same, fun p7 np7 => ⟨by show 3 ≤ sizeLine; decide, fun p8 np8 => ?_⟩⟩⟩
          have s58 := Same.trans (same_upd (H := H5) (o := .lst (ys.map V.str)) np6) (Same.trans (same_upd (o := .tup (ys.map V.str)) np7) (same_upd (o := .tup [.str (Str.ofString "is"), .str fs[j].1, .ref p7]) np8))
          have e7 := same_upd (o := .tup [.str (Str.ofString "is"), .str fs[j].1, .ref p7]) np8 _ _ (upd_same (H := upd H5 p6 (.lst (ys.map V.str))) (a := p7) (o := .tup (ys.map V.str)))
          exact q _ _ (.is fs[j].1 ys) ((((x1.trans x2).trans x3).trans (x4.trans x5)).trans (Same.ex s58)) ((T5.same s58).mono (by omega)) (.tup upd_same (.cons (.str _) (.cons (.str _) (.cons (Rp.dW_mk e7) .nil)))) ⟨⟨_, List.getElem_mem hj, rfl⟩, _, List.getElem_mem hj, rfl, (fun z => by have := hperm.length_eq; rw [z] at this; simp at this; omega), fun x hx => usub x (hperm.mem_iff.mp hx), sorted_pairwise hso (hperm.nodup_iff.mpr und)⟩ hk1
      · have h2 : ¬ (k : Int) < 2 := fun z => h2 (decide_eq_true z)
        obtain ⟨k', rfl⟩ : ∃ k', k = k' + 1 := ⟨k - 1, by omega⟩
        have hbk' : bud (k' + 1) = 2 * bud k' + 10 := rfl
        have ek : ((k' + 1 : Nat) : Int) - 1 = (k' : Int) := by omega
        refine ⟨.int way, rfl, rfl, _, rfl, ite2 (fun h4 => ?_) (fun h4 => ?_)⟩
        · refine ⟨.ref t, rfl, fv, rfl, .int ((k' + 1 : Nat) : Int), rfl, _, 1, rfl, rfl, t, fv, k', N + 1, fs, ?_, by omega, by omega, hf1, hfo, hl1, hl4, T1, by omega, fun wv H2 wn x2 T2 hwv hok hdp => ?_⟩
          · show [V.ref t, fv, V.int (((k' + 1 : Nat) : Int) - 1)] = _
            rw [ek]
          · refine ⟨by show 2 ≤ sizeLine; decide, fun p np => ?_⟩
            exact q _ _ (.nt wn) ((x1.trans x2).trans (Same.ex (same_upd np))) ((T2.upd (T2.ne_none np)).mono (by omega)) (.tup upd_same (.cons (.str _) (.cons (hwv.same (same_upd np)) .nil))) hok (Nat.succ_le_succ hdp)
        · refine ⟨.ref t, rfl, fv, rfl, .int ((k' + 1 : Nat) : Int), rfl, _, 1, rfl, rfl, t, fv, k', N + 1, fs, ?_, by omega, by omega, hf1, hfo, hl1, hl4, T1, by omega, fun wv H2 wn x2 T2 hwv hok hdp => ?_⟩
          · show [V.ref t, fv, V.int (((k' + 1 : Nat) : Int) - 1)] = _
            rw [ek]
          have hf2 := hf1.keep (T1.keepT x2) (imm_dF fs)
          refine ⟨by show 2 ≤ sizeLine; decide, fun l nl => ?_⟩
          have sl : Same H2 (upd H2 l (.lst [.str (Str.ofString "both"), .str (Str.ofString "either")])) := same_upd nl
          have hm2 := mod_lt (i := way) (j := 2) (by decide)
          obtain ⟨wd, hwd, hwd2⟩ : ∃ wd : Str, atI [V.str (Str.ofString "both"), V.str (Str.ofString "either")] (way % 2) = some (.str wd) ∧ (wd = Str.ofString "both" ∨ wd = Str.ofString "either") := by
            have : way % 2 = 0 ∨ way % 2 = 1 := by omega
            rcases this with z | z
            · rw [z]
              exact ⟨_, rfl, .inl rfl⟩
            · rw [z]
              exact ⟨_, rfl, .inr rfl⟩
          refine ⟨.int way, rfl, way, 2, rfl, rfl, (by decide : (0 : Int) < 2), l, _, _, .str wd, rfl, rfl, SqL.of upd_same, hwd, wv, rfl, ?_⟩
          obtain ⟨m, hm, hm1, hmk⟩ : ∃ m : Nat, (if ((k' + 1 : Nat) : Int) - 1 < 2 then ((k' + 1 : Nat) : Int) - 1 else 2) = (m : Int) ∧ 1 ≤ m ∧ m ≤ k' := by
            by_cases z : ((k' + 1 : Nat) : Int) - 1 < 2
            · exact ⟨k', by rw [if_pos z]; omega, by omega, Nat.le_refl _⟩
            · exact ⟨2, by rw [if_neg z]; rfl, by omega, by omega⟩
          have hbm := bud_mono hmk
          have T2l := T2.same sl
          refine ⟨.ref t, rfl, fv, rfl, .int ((k' + 1 : Nat) : Int), rfl, _, 1, rfl, rfl, 2, _, rfl, t, fv, m, N + 1 + bud k', fs, ?_, hm1, by omega, hf2.same sl, hfo, hl1, hl4, T2l, by omega, fun wv2 H3 wn2 x3 T3 hwv2 hok2 hdp2 => ⟨by show 3 ≤ sizeLine; decide, fun p np => ?_⟩⟩
          · rw [hm]
            rfl
          have kT := T2l.keepT x3
          have hwv3 := (hwv.same sl).keep kT (imm_dN wn)
          have xx : Ex t H (upd H3 p (.tup [.str wd, wv, wv2])) := ((x1.trans x2).trans (Same.ex sl)).trans (x3.trans (Same.ex (same_upd np)))
          have TT : TapeAt (upd H3 p (.tup [.str wd, wv, wv2])) t (N + bud (k' + 1)) := (T3.upd (T3.ne_none np)).mono (by omega)
          have hdd : max (dep wn) (dep wn2) + 1 ≤ k' + 1 := by omega
          rcases hwd2 with rfl | rfl
          · exact q _ _ (.both wn wn2) xx TT (.tup upd_same (.cons (.str _) (.cons (hwv3.same (same_upd np)) (.cons (hwv2.same (same_upd np)) .nil)))) ⟨hok, hok2⟩ hdd
          · exact q _ _ (.either wn wn2) xx TT (.tup upd_same (.cons (.str _) (.cons (hwv3.same (same_upd np)) (.cons (hwv2.same (same_upd np)) .nil)))) ⟨hok, hok2⟩ hdd
end
end Sg

namespace Sg
open PySem PySem.Spec PyProof.Rows L2
section
variable {X : Cx}
/-! ### a text, mirrored -/
def revS (z : Str) : Str := ⟨z.cps.toList.reverse.toArray⟩
theorem revS_len (z : Str) : (revS z).length = z.length := by
  show z.cps.toList.reverse.toArray.size = z.cps.size
  simp
theorem rev_pick (z : Str) : ((Builtin.Str.strSliceIndices none none (-1) z.length).filterMap (z.cps[·]?)).toArray = (revS z).cps := by
  rw [picked_rev]
  apply Array.toList_inj.mp
  show ((List.range z.length).map fun k => z.length - 1 - k).filterMap (z.cps[·]?) = z.cps.toList.reverse
  have hl : z.length = z.cps.toList.length := by simp [Str.length]
  rw [filterMap_get z.cps _ (fun i hi => by
    obtain ⟨k, hk, rfl⟩ := List.mem_map.mp hi
    have := List.mem_range.mp hk
    show z.length - 1 - k < z.length
    omega), List.map_map]
  apply List.ext_getElem
  · simp [Str.length]
  · intro i h1 h2
    have h3 : i < z.cps.size := by simpa using h2
    have h4 : z.cps.size - 1 - i < z.cps.size := by omega
    simp only [List.getElem_map, List.getElem_range, Function.comp, List.getElem_reverse, Str.length]
    simp [h4]
def tRevS (te : TE) : TE := fun σ H Q => te σ H fun x H1 => ∃ z, x = .str z ∧ z.length ≤ sizeLine ∧ Q (.str (revS z)) H1
theorem pe_revS {e : Expr} {te : TE} {k : Nat} {p1 p2 p3 pos : Pos} (he : PE X e te) : PE X (.Subscript e (.Slice none none (some (.UnaryOp .USub (.Constant (.int 1) k p1) p2)) p3) pos) (tRevS te) := by
  refine ⟨fun pins s σ H Q I h => ?_⟩
  refine Subscript_ (thn (he.run pins s σ H _ I h) fun v s1 ⟨x, H1, I1, r1, q1⟩ => ?_)
  obtain ⟨z, ex, hz, q⟩ := q1
  subst ex
  obtain ⟨t, rfl⟩ := r1
  have hst : PO X (some (.UnaryOp .USub (.Constant (.int 1) k p1) p2)) (tPart (tUn (rU fun i => .int (-i)) (tC (.int 1)))) := po_some (pe_un un_neg pe_int)
  refine wpAny_Slice (thn (po_none.run pins s1 σ H1 (fun o H2 => o = none ∧ H2 = H1) I1 ⟨rfl, rfl⟩) fun vl s2 ⟨l, H2, I2, pl, el, e2⟩ => ?_)
  subst el e2
  refine thn (po_none.run pins s2 σ H2 (fun o H3 => o = none ∧ H3 = H2) I2 ⟨rfl, rfl⟩) fun vu s3 ⟨u, H3, I3, pu, eu, e3⟩ => ?_
  subst eu e3
  refine thn (hst.run pins s3 σ H3 (fun o H4 => o = some (-1) ∧ H4 = H3) I3 ⟨1, rfl, -1, rfl, rfl, rfl⟩) fun vs s4 ⟨o, H4, I4, ps, eo, e4⟩ => ?_
  subst eo e4
  have I5 : Inv X pins σ H4 { s4 with heap := s4.heap.push { cls := .type "slice", data := .fields #[vl, vu, vs] } } := I4.kept (t' := s4.toks) fun b ob q => Heap.get?_push_of_some _ q
  obtain ⟨l', rfl, hl'⟩ := IsPart.raw pl
  obtain ⟨u', rfl, hu'⟩ := IsPart.raw pu
  obtain ⟨st', rfl, hs'⟩ := IsPart.raw ps
  have hsl := Heap.IsSliceOf.new s4.heap (partValue l') (partValue u') (partValue st')
  obtain ⟨os, hos, hcs, hds⟩ := hsl
  show wpAny (model X.prog X.w) X.A (subscriptTail e (.Slice none none (some (.UnaryOp .USub (.Constant (.int 1) k p1) p2)) p3) (.str z t) (.ref s4.heap.objs.size)) (EP X pins σ Q) X.xe { s4 with heap := s4.heap.push { cls := .type "slice", data := .fields #[partValue l', partValue u', partValue st'] } }
  refine tail_any (ops := [.str z t, .ref s4.heap.objs.size]) (typeIs_str _ _ _) (F.slot_str_getitem.lookup) ?_ (by with_unfolding_all rfl)
  refine wpAny_getItem_str_slice (l := l') (u := u') (st := st') ⟨os, hos, hcs, hds⟩ (by rw [hs']; rfl) ?_
  unfold sliceMade slicePicked
  rw [hs', hl', hu']
  show Made.post (if (((-1 : Int) == 1) && (Builtin.Str.strSliceIndices none none (-1) z.length).length == z.length) = true then Made.val (.str z t) else Made.str ⟨((Builtin.Str.strSliceIndices none none (-1) z.length).filterMap (z.cps[·]?)).toArray⟩) (EP X pins σ Q) _
  rw [if_neg (by simp), rev_pick]
  refine ⟨?_, .str _, H4, I5.tok _, ⟨_, rfl⟩, q⟩
  show (revS z).length ≤ sizeLine
  rw [revS_len]
  exact hz
/-! ### d.update(e) -/
def rUpdD : V → List V → Hp → VK → Prop := fun x xs H Q => ∃ (a b : Addr) (kvs more : List (Key × V)), x = .ref a ∧ xs = [.ref b] ∧ H a = some (.dK kvs) ∧ H b = some (.dK more) ∧ a ≠ b ∧ kvs.length + more.length ≤ 1000 ∧ Q .non (upd H a (.dK (mergeK kvs more)))
theorem mt_updD : MtR X "dict.update" rUpdD := by
  intro pins s σ H x xs v us Q I rx rxs h
  obtain ⟨a, b, kvs, more, rfl, rfl, ha, hb, hab, hz, q⟩ := h
  cases rx
  rw [Vals.ref1 rxs]
  obtain ⟨z1, lo1, vs1, r1, d1⟩ := I.hok a _ ha
  obtain ⟨z2, lo2, vs2, r2, d2⟩ := I.hok b _ hb
  have l1 := Paired.length r1
  have l2 := Paired.length r2
  refine call_meetsIn PySem.F.slot_dict_update d1.typeIs PySem.F.entry_dict_update (PySem.F.args_dict_update_2 _ _) (PySem.meets_dict_update (mixKind X.prog X.w) a b hab lo2) ⟨vs1, vs2, d1, d2, ?_, fun h' e1 e2 hs => ?_⟩
  · rw [← l1, ← l2]
    exact sz _ hz
  · have e1' := e1
    obtain ⟨oo, es, ep, hoo, _⟩ := e1'
    refine ⟨.non, upd H a (.dK (mergeK kvs more)), I.write (e := a) (t' := s.toks) (by rw [ha]; trivial) (.inl rfl) (fun c u hc hu => (hs.2 c hc).trans hu) ⟨_, hoo⟩ ⟨?_, lo1, _, KV.merge r2 r1, e1⟩, rfl, q⟩
    exact Nat.le_trans (length_mergeK more kvs) (sz _ hz)
end
end Sg

namespace Sg
open PySem PySem.Spec PyProof.Rows L2
abbrev sKinds : Stmt := topS 12
abbrev nKinds : List Str := ["_law_tape_here", "_law_many", "_law_found", "_law_name", "_law_other"]
theorem scKinds : FnScope nKinds ["_law_tape_here", "_law_many"] (defScope sKinds) := ⟨rfl, rfl, rfl, by decide +kernel, rfl, by decide +kernel, by decide +kernel⟩
theorem isIn_iff (ws : List Str) (w : Str) : isIn ws w = true ↔ w ∈ ws := by
  unfold isIn inV
  rw [List.any_eq_true]
  constructor
  · rintro ⟨v, hv, e⟩
    obtain ⟨x, hx, rfl⟩ := List.mem_map.mp hv
    have : (x == w) = true := e
    rw [← eq_of_beq this]
    exact hx
  · exact fun h => ⟨.str w, List.mem_map.mpr ⟨w, h, rfl⟩, by show (w == w) = true; exact beq_self_eq_true w⟩
/-! ### kinds drawn -/
abbrev four : List Str := [Str.ofString "text", Str.ofString "ref", Str.ofString "entry", Str.ofString "put"]
theorem revS_inj {a b : Str} (h : revS a = revS b) : a = b := by
  have e := congrArg (fun s : Str => s.cps.toList) h
  have e : a.cps.toList.reverse.toArray.toList = b.cps.toList.reverse.toArray.toList := e
  simp only at e
  exact str_ext (List.reverse_inj.mp e)
theorem revS_cps (a : Str) : (revS a).cps.toList = a.cps.toList.reverse := by
  show a.cps.toList.reverse.toArray.toList = _
  simp only
theorem four_rev : ∀ w ∈ four, revS w ∉ four ∧ revS w ≠ w := by decide +kernel
theorem four_wd : ∀ w ∈ four, (revS w).length ≤ 16 ∧ ∀ c ∈ (revS w).cps.toList, 97 ≤ c ∧ c ≤ 122 := by decide +kernel
def KI (ws : List Str) (i : Nat) (ks : List Str) : Prop := ks.length = i ∧ ks.Nodup ∧ ∀ x ∈ ks, (x ∈ ws.take i ∧ x ∉ four) ∨ ∃ w ∈ four, w ∈ ws.take i ∧ x = revS w
theorem take_ne {ws : List Str} (hn : ws.Nodup) {i : Nat} (hi : i < ws.length) : ws[i] ∉ ws.take i := fun hm => by
  obtain ⟨j, hj, e⟩ := List.getElem_of_mem hm
  rw [List.getElem_take] at e
  rw [List.length_take] at hj
  exact absurd e ((List.pairwise_iff_getElem.mp (List.nodup_iff_pairwise_ne.mp hn)) j i (by omega) hi (by omega))
theorem KI.own {ws ks : List Str} {i : Nat} (h : KI ws i ks) (hn : ws.Nodup) (hr : NR ws) (hi : i < ws.length) (h4 : ws[i] ∉ four) : ws[i] ∉ ks := fun hm => by
  rcases h.2.2 _ hm with z | ⟨w, hw4, hww, e⟩
  · exact take_ne hn hi z.1
  · have := hr w (List.mem_of_mem_take hww) ws[i] (List.getElem_mem hi) (by rw [e, revS_cps])
    rw [← this] at h4
    exact h4 hw4
theorem KI.mir {ws ks : List Str} {i : Nat} (h : KI ws i ks) (hn : ws.Nodup) (hr : NR ws) (hi : i < ws.length) (h4 : ws[i] ∈ four) : revS ws[i] ∉ ks := fun hm => by
  rcases h.2.2 _ hm with z | ⟨w, hw4, hww, e⟩
  · have := hr ws[i] (List.getElem_mem hi) (revS ws[i]) (List.mem_of_mem_take z.1) (revS_cps _)
    exact (four_rev _ h4).2 this.symm
  · rw [← revS_inj e] at hww
    exact take_ne hn hi hww
theorem KI.add {ws ks : List Str} {i : Nat} {x : Str} (h : KI ws i ks) (hi : i < ws.length) (hx : x ∉ ks) (hw : (x = ws[i] ∧ x ∉ four) ∨ (ws[i] ∈ four ∧ x = revS ws[i])) : KI ws (i + 1) (ks ++ [x]) := by
  have et := List.take_succ_eq_append_getElem hi
  refine ⟨by rw [List.length_append, h.1]; rfl, ?_, fun y hy => ?_⟩
  · rw [List.nodup_append]
    exact ⟨h.2.1, (List.nodup_cons.mpr ⟨List.not_mem_nil, List.nodup_nil⟩), fun a ha b hb e => hx (by rw [List.mem_singleton.mp hb] at e; rw [← e]; exact ha)⟩
  · rw [et]
    rcases List.mem_append.mp hy with z | z
    · rcases h.2.2 y z with q | ⟨w, q1, q2, q3⟩
      · exact .inl ⟨List.mem_append.mpr (.inl q.1), q.2⟩
      · exact .inr ⟨w, q1, List.mem_append.mpr (.inl q2), q3⟩
    · rw [List.mem_singleton.mp z]
      rcases hw with ⟨q1, q2⟩ | ⟨q1, q2⟩
      · exact .inl ⟨by rw [q1]; exact List.mem_append.mpr (.inr (List.mem_singleton.mpr rfl)), q2⟩
      · exact .inr ⟨ws[i], q1, List.mem_append.mpr (.inr (List.mem_singleton.mpr rfl)), q2⟩
/-- a kind's text -/
def Kd (x : Str) : Prop := Wd x ∧ x ∉ four
theorem KI.kd {ws ks : List Str} {i : Nat} (h : KI ws i ks) (hw : ∀ x ∈ ws, Wd x) : ∀ x ∈ ks, Kd x := fun x hx => by
  rcases h.2.2 x hx with z | ⟨w, h4, _, e⟩
  · exact ⟨hw x (List.mem_of_mem_take z.1), z.2⟩
  · rw [e]
    exact ⟨four_wd w h4, (four_rev w h4).1⟩
section
variable {P : Program} {w : World} {K : PySem.W.Frag} {mg : Str → Option Value} {base : Heap}
def spKinds : Sp := fun vs H Q _ => ∃ (t : Addr) (m n : Nat), vs = [.ref t, .int (m : Int)] ∧ m ≤ 26 ∧ TapeAt H t n ∧ n ≤ 900000 ∧
  ∀ (p : Addr) (H' : Hp) (ks : List Str), Ex t H H' → TapeAt H' t (n + 12) → H p = none → H' p = some (.lst (ks.map V.str)) → ks.length = m → (∀ x ∈ ks, Kd x) → ks.Nodup → Q (.ref p) H'
theorem ok_kinds {f fN : Addr} {fd fdN : FuncData} {k : Nat} (F : Fun K "_law_kind_names" "_law_kind_names" sKinds f fd) (FN : Fun K "_law_names" "_law_names" sNames fN fdN) (bN : Binds K fdN ["_law_tape_here", "_law_many"] []) (gN : mg "_law_names" = some (.ref fN)) (GN : FnOk P w K mg base CX0 (k + 2) fN fdN ["_law_tape_here", "_law_many"] spNames)
    (ml : mg "len" = none) : FnOk P w K mg base CX0 (k + 3) f fd ["_law_tape_here", "_law_many"] spKinds := by
  refine F.ok scKinds (fun vs H Q E h => ?_) (fun cdv A outer s H vs Q E hr h => ?_)
  · obtain ⟨t, m, n, rfl, _⟩ := h
    rfl
  · obtain ⟨t, m, n, rfl, hm, hT, hn, q⟩ := h
    refine ⟨_, pss_cons (ps_set (i := 2) scKinds.nd rfl (.inl rfl) (pe_lst pa_nil))
      (pss_cons (ps_for PassesOwn.never rfl (pi_list (pe_call GN hr (by rfl) gN FN.kp bN .nil pass0 (pa_cons (pv 0) (pa_cons (pv 1) pa_nil)))) (pg_name (i := 3) scKinds.nd rfl (.inl rfl))
        (pss_one (ps_for PassesOwn.never rfl (pi_tup (pe_tup (pa_cons (pv 3) (pa_cons (pe_revS (pv 3)) (pa_cons (pe_op op_add_str (pe_slice sl_str (pv 3) po_none (po_some pe_int)) pe_str) (pa_cons (pe_op op_add_str (pe_slice sl_str (pv 3) po_none (po_some pe_int)) pe_str) pa_nil)))))) (pg_name (i := 4) scKinds.nd rfl (.inl rfl))
          (pss_one (ps_if (PW.pt (pw_and (pt_cmpR op_notIn_seq (pv 4) (pe_op op_cat (pv 2) (pe_lst (pa_cons pe_str (pa_cons pe_str (pa_cons pe_str (pa_cons pe_str pa_nil)))))) rfl) (pw_and1 (pt_cmpR op_lt (pe_callB call_len_seq (by rfl) ml PySem.boot_len (pa_cons (pv 2) pa_nil)) (pv 1) (nomark _)))))
            (pss_cons (ps_expr (pe_bm PySem.F.plainAttrs_list PySem.F.slot_list_append PySem.F.type_list_append mt_append (pv 2) (pa_cons (pv 4) pa_nil))) (pss_one ps_break)) pss_nil)))))
      (pss_one (ps_ret (pv 2)))), ?_⟩
    refine ⟨Nat.zero_le _, fun fl nfl => ?_⟩
    have nflt := hT.ne_none nfl
    have T0 := hT.upd (o := .lst []) nflt
    refine ⟨.ref t, rfl, .int (m : Int), rfl, t, m, n, rfl, by omega, T0, by omega, fun p H1 ws x1 T1 np e1 l1 w1 nd1 nr1 => ?_⟩
    have nd := nd1 hm
    have npt := T0.ne_none np
    have nflp : p ≠ fl := fun e => by
      subst e
      rw [upd_same] at np
      cases np
    have x01 : Ex t H H1 := (Same.ex (same_upd nfl)).trans x1
    have f1 := x1 _ _ nflt upd_same
    refine ⟨p, rfl, ⟨_, SqL.of e1⟩, ?_⟩
    refine for_it (walk_list (xs := ws.map V.str)) (fun i σ G => ∃ (y3 y4 : Option V) (ks : List Str), σ = [some (.ref t), some (.int (m : Int)), some (.ref fl), y3, y4] ∧ Ex t H G ∧ TapeAt G t (n + 12) ∧ G p = some (.lst (ws.map V.str)) ∧ G fl = some (.lst (ks.map V.str)) ∧ KI ws i ks)
      ⟨none, none, [], rfl, x01, T1, e1, f1, rfl, List.nodup_nil, fun x hx => by cases hx⟩ ?_ ?_ ?_
    · rintro i σ G _ ⟨y3, y4, ks, rfl, xG, TG, eG, fG, kG⟩
      exact SqL.of eG
    · rintro i v σ G0 G hi ⟨y3, y4, ks, rfl, xG, TG, eG, fG, kG⟩ ⟨rfl, fv⟩
      rw [List.length_map] at hi
      rw [List.getElem?_map, List.getElem?_eq_getElem hi] at fv
      cases fv
      have hown := kG.own nd nr1 hi
      have hmir := kG.mir nd nr1 hi
      have hadd := fun x => kG.add (x := x) hi
      have hlw := (w1 _ (List.getElem_mem hi)).1
      have hkl := kG.1
      generalize ws[i] = x at *
      have hc7 := cutS_length x none (some 7)
      have hc6 := cutS_length x none (some 6)
      refine ⟨.str x, rfl, .str x, rfl, x, rfl, sz _ (by omega), .str x, rfl, 7, rfl, x, rfl, sz _ (by omega), _, _, rfl, rfl, sz _ (by show _ + 1 ≤ 1000; omega), .str x, rfl, 6, rfl, x, rfl, sz _ (by omega), _, _, rfl, rfl, sz _ (by show _ + 2 ≤ 1000; omega), by show 4 ≤ sizeLine; decide, fun tp ntp => ?_⟩
      have st := same_upd (o := .tup [.str x, .str (revS x), .str (cutS x none (some 7) ++ Str.ofString "q"), .str (cutS x none (some 6) ++ Str.ofString "zj")]) ntp
      have etp : upd G tp (.tup [.str x, .str (revS x), .str (cutS x none (some 7) ++ Str.ofString "q"), .str (cutS x none (some 6) ++ Str.ofString "zj")]) tp = _ := upd_same
      refine ⟨tp, rfl, ⟨_, SqT.of etp⟩, ?_⟩
      have xt := xG.trans (Same.ex st)
      have Tt := TG.same st
      have et := st _ _ eG
      have ft := st _ _ fG
      generalize upd G tp (.tup [.str x, .str (revS x), .str (cutS x none (some 7) ++ Str.ofString "q"), .str (cutS x none (some 6) ++ Str.ofString "zj")]) = G1 at *
      -- one that is taken
      have took : ∀ (G2 : Hp) (y3 y4 : Option V) (z : Str), Same G1 G2 → z ∉ ks → ((z = x ∧ z ∉ four) ∨ (x ∈ four ∧ z = revS x)) → ∃ (y3' y4' : Option V) (ks' : List Str), [some (V.ref t), some (.int (m : Int)), some (.ref fl), y3, y4] = [some (.ref t), some (.int (m : Int)), some (.ref fl), y3', y4'] ∧ Ex t H (upd G2 fl (.lst (ks.map V.str ++ [.str z]))) ∧ TapeAt (upd G2 fl (.lst (ks.map V.str ++ [.str z]))) t (n + 12) ∧ upd G2 fl (.lst (ks.map V.str ++ [.str z])) p = some (.lst (ws.map V.str)) ∧ upd G2 fl (.lst (ks.map V.str ++ [.str z])) fl = some (.lst (ks'.map V.str)) ∧ KI ws (i + 1) ks' := by
        intro G2 y3 y4 z s2 hz hw
        refine ⟨y3, y4, ks ++ [z], rfl, ?_, (Tt.same s2).upd nflt, ?_, by rw [upd_same, List.map_append]; rfl, hadd z hz hw⟩
        · exact fun a o ha e => by
            rw [upd_ne (fun zz => by subst zz; rw [nfl] at e; cases e)]
            exact s2 _ _ (xt _ _ ha e)
        · rw [upd_ne nflp]
          exact s2 _ _ et
      refine for_it (walk_tup (xs := [V.str x, .str (revS x), .str (cutS x none (some 7) ++ Str.ofString "q"), .str (cutS x none (some 6) ++ Str.ofString "zj")])) (fun j σ G2 => ∃ (y4 : Option V), σ = [some (.ref t), some (.int (m : Int)), some (.ref fl), some (.str x), y4] ∧ Same G1 G2 ∧ (j = 0 ∨ (j = 1 ∧ x ∈ four))) ⟨y4, rfl, Same.refl _, .inl rfl⟩ ?_ ?_ ?_
      · rintro j σ G2 _ ⟨y4, rfl, s2, _⟩
        exact SqT.of (s2 _ _ etp)
      · rintro j v2 σ G0' G2 hj ⟨y4, rfl, s2, hjj⟩ ⟨rfl, fv2⟩
        obtain ⟨z, hz, hzk⟩ : ∃ z : Str, v2 = .str z ∧ ((j = 0 ∧ z = x) ∨ (j = 1 ∧ x ∈ four ∧ z = revS x)) := by
          rcases hjj with rfl | ⟨rfl, h4⟩
          · exact ⟨x, (Option.some.inj fv2).symm, .inl ⟨rfl, rfl⟩⟩
          · exact ⟨revS x, (Option.some.inj fv2).symm, .inr ⟨rfl, h4, rfl⟩⟩
        subst hz
        have f2 := s2 _ _ ft
        refine ⟨.str z, rfl, .ref fl, rfl, by show 4 ≤ sizeLine; decide, fun l4 n4 => ?_⟩
        have s4 := same_upd (o := .lst (four.map V.str)) n4
        refine ⟨fl, l4, _, four.map V.str, rfl, rfl, s4 _ _ f2, upd_same, sz _ (by rw [List.length_map]; show ks.length + 4 ≤ 1000; omega), fun l5 n5 => ?_⟩
        have s5 := same_upd (o := .lst (ks.map V.str ++ four.map V.str)) n5
        have s45 := Same.trans s4 s5
        have e5 : upd (upd G2 l4 (.lst (four.map V.str))) l5 (.lst (ks.map V.str ++ four.map V.str)) l5 = some (.lst ((ks ++ four).map V.str)) := by
          rw [upd_same, List.map_append]
        have hin : inV (V.str z) ((ks ++ four).map V.str) = isIn (ks ++ four) z := rfl
        refine ⟨l5, _, rfl, .inl (SqL.of e5), rfl, all_flat _, _, rfl, ?_⟩
        dsimp only
        rw [if_pos rfl, hin]
        have take : z ∉ ks ++ four → isIn (ks ++ four) z = false := fun hno => by
          cases hb : isIn (ks ++ four) z with
          | false => rfl
          | true => exact absurd ((isIn_iff _ _).mp hb) hno
        by_cases hno : z ∈ ks ++ four
        · rw [(isIn_iff _ _).mpr hno]
          rcases hzk with ⟨rfl, rfl⟩ | ⟨rfl, h4, rfl⟩
          · refine ⟨_, rfl, Same.trans s2 s45, .inr ⟨rfl, ?_⟩⟩
            rcases List.mem_append.mp hno with zz | zz
            · by_cases h4 : z ∈ four
              · exact h4
              · exact absurd zz (hown h4)
            · exact zz
          · rcases List.mem_append.mp hno with zz | zz
            · exact absurd zz (hmir h4)
            · exact absurd zz (four_rev _ h4).1
        · rw [take hno]
          have hnk : z ∉ ks := fun zz => hno (List.mem_append.mpr (.inl zz))
          have hn4 : z ∉ four := fun zz => hno (List.mem_append.mpr (.inr zz))
          have f5 := s45 _ _ f2
          refine ⟨.ref fl, rfl, fl, _, rfl, .inl (SqL.of f5), .int (m : Int), rfl, _, _, rfl, rfl, _, rfl, ?_⟩
          rw [List.length_map, show decide (((ks.length : Nat) : Int) < (m : Nat)) = true from decide_eq_true (by omega)]
          refine ⟨.ref fl, rfl, .inl ⟨rfl, _, SqL.of f5⟩, .str z, rfl, fl, _, .str z, rfl, rfl, f5, small1000 (by rw [List.length_map]; omega), ?_⟩
          refine took _ _ _ z (Same.trans s2 s45) hnk ?_
          rcases hzk with ⟨_, rfl⟩ | ⟨_, h4, rfl⟩
          · exact .inl ⟨rfl, hn4⟩
          · exact .inr ⟨h4, rfl⟩
      · rintro σ G2 ⟨y4, rfl, s2, h | h⟩
        · cases h
        · cases h.1
    · rintro σ G ⟨y3, y4, ks, rfl, xG, TG, eG, fG, kG⟩
      rw [List.length_map] at kG
      exact ⟨.ref fl, rfl, q _ _ ks xG TG nfl fG (by rw [kG.1, l1]) (kG.kd w1) kG.2.1⟩
end
end Sg

namespace Sg
open PySem PySem.Spec PyProof.Rows L2
theorem szT (n : Nat) (h : n ≤ 100000) : n ≤ sizeLine := Nat.le_trans h (by decide)
/-- a text of n signs at most, each of them a sign -/
def Tx (n : Nat) (x : Str) : Prop := x.length ≤ n ∧ PyData.strOk x = true
theorem sOk_iff {x : Str} : PyData.strOk x = true ↔ ∀ c ∈ x.cps.toList, c < 0x110000 := by
  unfold PyData.strOk
  rw [← Array.all_toList, List.all_eq_true]
  simp only [decide_eq_true_eq]
theorem ok_add {a b : Str} (ha : PyData.strOk a = true) (hb : PyData.strOk b = true) : PyData.strOk (a ++ b) = true := sOk_iff.mpr fun c hc => by
  have e : (a ++ b).cps.toList = a.cps.toList ++ b.cps.toList := TL.tl_append a b
  rw [e] at hc
  rcases List.mem_append.mp hc with z | z
  · exact sOk_iff.mp ha c z
  · exact sOk_iff.mp hb c z
theorem Tx.up {n m : Nat} {x : Str} (h : Tx n x) (l : n ≤ m) : Tx m x := ⟨Nat.le_trans h.1 l, h.2⟩
theorem Wd.tx {x : Str} (h : Wd x) : Tx 16 x := ⟨h.1, h.2.ok⟩
theorem cp_add (a b : Str) : (a ++ b).length = a.length + b.length := Str.length_append a b
theorem upd_dict {H : Hp} {y x : Addr} {k : List (Key × V)} {l : List V} {o' : HO} (hy : H y = some (.dK k)) (hx : H x = some (.lst l)) : upd H y o' x = some (.lst l) := by
  rw [upd_ne (fun e => by subst e; rw [hy] at hx; cases hx)]
  exact hx
theorem keepT_dict {H : Hp} {y : Addr} {k : List (Key × V)} {o' : HO} (hy : H y = some (.dK k)) : KeepT H (upd H y o') := fun a xs h => by
  rw [upd_ne (fun e => by subst e; rw [hy] at h; cases h)]
  exact h
theorem hu1 {k : Nat} {A : Around} (r : Room k A) : A.units + 1 < cLine := by
  have := r.un
  omega
abbrev sText : Stmt := topS 16
abbrev nText : List Str := ["_law_tape_here", "_law_marks", "_law_some", "_law_found", "_law_k", "_law_more"]
theorem scText : FnScope nText ["_law_tape_here", "_law_marks"] (defScope sText) := ⟨rfl, rfl, rfl, by decide +kernel, rfl, by decide +kernel, by decide +kernel⟩
abbrev sCast : Stmt := topS 17
abbrev nCast : List Str := ["_law_tape_here", "_law_names_here", "_law_kinds", "_law_w"]
theorem scCast : FnScope nCast ["_law_tape_here"] (defScope sCast) := ⟨rfl, rfl, rfl, by decide +kernel, rfl, by decide +kernel, by decide +kernel⟩
abbrev sInl : Stmt := topS 18
abbrev nInl : List Str := ["_law_tape_here", "_law_w", "_law_way", "_law_name"]
theorem scInl : FnScope nInl ["_law_tape_here", "_law_w"] (defScope sInl) := ⟨rfl, rfl, rfl, by decide +kernel, rfl, by decide +kernel, by decide +kernel⟩
abbrev lits : List Str := [Str.ofString "ab", Str.ofString "Word", Str.ofString " ", Str.ofString "x1", Str.ofString "<", Str.ofString ">", Str.ofString "<>", Str.ofString "<Ab>", Str.ofString "~", Str.ofString "tail ", Str.ofString "<ab", Str.ofString "&", Str.ofString ".", Str.ofString "9"]
theorem lits_len : ∀ z ∈ lits, z.length ≤ 16 ∧ PyData.strOk z = true := by decide +kernel
theorem str_at' {ws : List Str} {r : Int} (h0 : 0 ≤ r) (h : r < ws.length) : ∃ m ∈ ws, atI (ws.map V.str) r = some (.str m) := by
  obtain ⟨j, rfl⟩ : ∃ j : Nat, r = j := ⟨r.toNat, by omega⟩
  have hj : j < ws.length := by omega
  refine ⟨ws[j], List.getElem_mem hj, atI_nat ?_⟩
  rw [List.getElem?_map, List.getElem?_eq_getElem hj]
  rfl
theorem cut_strs (ws : List Str) (lo hi : Option Int) : cutV (ws.map V.str) lo hi = ((ws.drop (HT.sIx ws.length 0 lo)).take (HT.sIx ws.length ws.length hi - HT.sIx ws.length 0 lo)).map V.str := by
  unfold cutV
  rw [List.length_map, List.map_take, List.map_drop]
abbrev mains6 : List Str := [Str.ofString "Ab", Str.ofString "ab", Str.ofString "aB", Str.ofString "zeta", Str.ofString "Beta 2", Str.ofString "b"]
theorem mains_len : ∀ m ∈ mains6, m.length ≤ 40 ∧ PyData.strOk m = true := by decide +kernel
/-! ### what was cast -/
abbrev ky (x : String) : Key := Sum.inr (Str.ofString x)
def Has (H : Hp) (t : Addr) (kvs : List (Key × V)) (k : Key) (ws : List Str) : Prop := ∃ a : Addr, valV kvs k = some (.ref a) ∧ a ≠ t ∧ H a = some (.lst (ws.map V.str))
structure Cst where
  fs : List (Str × List Str)
  wordy : List Str
  boxes : List Str
  parts : List Str
  own : List Str
  ties : List Str
  keys : List Str
structure Cst.Ok (C : Cst) : Prop where
  fok : FOk C.fs
  f1 : 1 ≤ C.fs.length
  f3 : C.fs.length ≤ 3
  fnd : (C.fs.map (·.1)).Nodup
  lw : C.wordy.length = 3
  lb : C.boxes.length = 3
  lp : C.parts.length = 5
  lo : C.own.length = 8
  lt : C.ties.length = 2
  lk : C.keys.length = 4
  kw : ∀ x ∈ C.wordy, Kd x
  kb : ∀ x ∈ C.boxes, Kd x
  wp : ∀ x ∈ C.parts, Wd x
  wo : ∀ x ∈ C.own, Wd x
  wt : ∀ x ∈ C.ties, Wd x
  wk : ∀ x ∈ C.keys, Wd x
structure CastAt (H : Hp) (t w : Addr) (C : Cst) (kvs : List (Key × V)) (fv : V) : Prop where
  dw : H w = some (.dK kvs)
  nw : w ≠ t
  vf : valV kvs (ky "facets") = some fv
  rf : Rp H fv (dF C.fs)
  wordy : Has H t kvs (ky "wordy") C.wordy
  boxes : Has H t kvs (ky "boxes") C.boxes
  parts : Has H t kvs (ky "parts") C.parts
  own : Has H t kvs (ky "own") C.own
  ties : Has H t kvs (ky "ties") C.ties
  keys : Has H t kvs (ky "keys") C.keys
  mains : Has H t kvs (ky "mains") mains6
theorem Has.ex {H H' : Hp} {t : Addr} {kvs : List (Key × V)} {k : Key} {ws : List Str} (h : Has H t kvs k ws) (e : Ex t H H') : Has H' t kvs k ws := by
  obtain ⟨a, h1, h2, h3⟩ := h
  exact ⟨a, h1, h2, e _ _ h2 h3⟩
theorem CastAt.ex {H H' : Hp} {t w : Addr} {C : Cst} {kvs : List (Key × V)} {fv : V} {n : Nat} (h : CastAt H t w C kvs fv) (hT : TapeAt H t n) (e : Ex t H H') : CastAt H' t w C kvs fv :=
  ⟨e _ _ h.nw h.dw, h.nw, h.vf, h.rf.keep (hT.keepT e) (imm_dF _), h.wordy.ex e, h.boxes.ex e, h.parts.ex e, h.own.ex e, h.ties.ex e, h.keys.ex e, h.mains.ex e⟩
section
variable {P : Program} {w : World} {K : PySem.W.Frag} {mg : Str → Option Value} {base : Heap}
def spText : Sp := fun vs H Q _ => ∃ (t a : Addr) (ms : List Str) (n : Nat), vs = [.ref t, .ref a] ∧ H a = some (.lst (ms.map V.str)) ∧ a ≠ t ∧ (∀ m ∈ ms, m.length ≤ 16 ∧ PyData.strOk m = true) ∧ 1 ≤ ms.length ∧ ms.length ≤ 100 ∧ TapeAt H t n ∧ n ≤ 900000 ∧ ∀ (x : Str) (H' : Hp), Ex t H H' → TapeAt H' t (n + 20) → Tx 40 x → Q (.str x) H'
theorem ok_text {f fD : Addr} {fd fdD : FuncData} {k : Nat} (F : Fun K "_law_text" "_law_text" sText f fd) (FD : Fun K "_law_draw" "_law_draw" sDraw fD fdD) (bD : Binds K fdD ["_law_tape_here", "_law_many"] []) (gD : mg "_law_draw" = some (.ref fD)) (ml : mg "len" = none) (mr : mg "range" = none) : FnOk P w K mg base CX0 (k + 2) f fd ["_law_tape_here", "_law_marks"] spText := by
  have GD : FnOk P w K mg base CX0 (k + 1) fD fdD ["_law_tape_here", "_law_many"] spDraw := ok_draw FD
  refine F.ok scText (fun vs H Q E h => ?_) (fun cdv A outer s H vs Q E hr h => ?_)
  · obtain ⟨t, a, ms, n, rfl, _⟩ := h
    rfl
  · obtain ⟨t, a, ms, n, rfl, ha, hat, hms, hm1, hm2, hT, hn, q⟩ := h
    refine ⟨_, pss_cons (ps_set (i := 2) scText.nd rfl (.inl rfl) (pe_lst (pa_cons pe_str (pa_cons pe_str (pa_cons pe_str (pa_cons pe_str (pa_cons pe_str (pa_cons pe_str (pa_cons pe_str (pa_cons pe_str (pa_cons pe_str (pa_cons pe_str (pa_cons pe_str (pa_cons pe_str (pa_cons pe_str (pa_cons pe_str pa_nil))))))))))))))))
      (pss_cons (ps_set (i := 3) scText.nd rfl (.inl rfl) pe_str)
      (pss_cons (ps_for PassesOwn.never rfl (pi_range1 rfl mr (pa_cons (pe_call GD hr (by rfl) gD FD.kp bD .nil pass0 (pa_cons (pv 0) (pa_cons pe_int pa_nil))) pa_nil)) (pg_name (i := 4) scText.nd rfl (.inl rfl))
        (pss_cons (ps_if (PW.pt (pw_and (pt_cmpR (op_neD hr.units) (pv 1) (pe_lst pa_nil) (nomark _)) (pw_and1 (pt_cmpR op_eq (pe_call GD hr (by rfl) gD FD.kp bD .nil pass0 (pa_cons (pv 0) (pa_cons pe_int pa_nil))) pe_int (nomark _)))))
          (pss_one (ps_set (i := 5) scText.nd rfl (.inl rfl) (pe_op op_add_str (pe_op op_add_str pe_str (pe_ix ix_list (pv 1) (pe_call GD hr (by rfl) gD FD.kp bD .nil pass0 (pa_cons (pv 0) (pa_cons (pe_callB call_len_seq (by rfl) ml PySem.boot_len (pa_cons (pv 1) pa_nil)) pa_nil))) (fun _ _ => rfl))) pe_str)))
          (pss_one (ps_set (i := 5) scText.nd rfl (.inl rfl) (pe_ix ix_list (pv 2) (pe_call GD hr (by rfl) gD FD.kp bD .nil pass0 (pa_cons (pv 0) (pa_cons pe_int pa_nil))) (fun _ _ => rfl)))))
        (pss_one (ps_if (pt_cmpR op_le (pe_callB call_len_str (by rfl) ml PySem.boot_len (pa_cons (pe_op op_add_str (pv 3) (pv 5)) pa_nil)) pe_int (nomark _)) (pss_one (ps_set (i := 3) scText.nd rfl (.inl rfl) (pe_op op_add_str (pv 3) (pv 5)))) pss_nil))))
      (pss_one (ps_ret (pv 3))))), ?_⟩
    have hne : PyData.eqv (.list (ms.map .str)) (.list []) = false := by
      rw [eqv_nil_l]
      cases ms with
      | nil => simp at hm1
      | cons _ _ => rfl
    have hsh : SeqAt.shaped (.list (ms.map .str)) = true := by
      refine shaped_of (canLayAll_map (f := PyData.str) fun m hm => (hms m hm).2) ?_
      show PyData.depthAll (ms.map .str) + 1 ≤ 64
      have := depthAll_map (k := 0) (f := PyData.str) (xs := ms) fun _ _ => Nat.le_refl _
      omega
    refine ⟨by show 14 ≤ sizeLine; decide, fun sl nsl => ?_⟩
    have nslt := hT.ne_none nsl
    have s1 := same_upd (o := .lst (lits.map V.str)) nsl
    have T1 := hT.upd (o := .lst (lits.map V.str)) nslt
    have esl : upd H sl (.lst (lits.map V.str)) sl = some (.lst (lits.map V.str)) := upd_same
    have ha1 := s1 _ _ ha
    refine ⟨.ref t, rfl, t, 5, n, rfl, by decide, by decide, T1, by omega, fun r H2 x2 T2 hr0 hr1 => ⟨r, rfl, by omega, by omega, ?_⟩⟩
    refine for_it (walk_range (lo := 0)) (fun i σ G => ∃ (y4 y5 : Option V) (f' : Str), σ = [some (.ref t), some (.ref a), some (.ref sl), some (.str f'), y4, y5] ∧ Ex t (upd H sl (.lst (lits.map V.str))) G ∧ TapeAt G t (n + 1 + 2 * i) ∧ f'.length ≤ 40 ∧ PyData.strOk f' = true)
      ⟨none, none, Str.ofString "", rfl, x2, T2, by decide, by decide +kernel⟩ (fun _ _ _ _ _ => trivial) ?_ ?_
    · rintro i v σ G0 G hi ⟨y4, y5, f', rfl, xG, TG, hf', hfo⟩ ⟨rfl, rfl⟩
      have aG := xG _ _ hat ha1
      have sG := xG _ _ nslt esl
      refine ⟨.ref a, rfl, Nat.zero_le _, fun z nz => ?_⟩
      have sz := same_upd (o := .lst []) nz
      refine ⟨.list (ms.map .str), .list [], Rp.dp (.lst (sz _ _ aG) (RpAll.strs ms)), Rp.dp (.lst upd_same .nil), hsh, by decide, _, rfl, ?_⟩
      rw [hne]
      have Tz := TG.upd (o := .lst []) (TG.ne_none nz)
      refine ⟨.ref t, rfl, t, 3, n + 1 + 2 * i, rfl, by decide, by decide, Tz, by omega, fun r1 H3 x3 T3 h30 h31 => ⟨rfl, _, rfl, ite2 (fun h0 => ?_) (fun h0 => ?_)⟩⟩
      · have aH := x3 _ _ hat (sz _ _ aG)
        refine ⟨.ref a, rfl, .ref t, rfl, .ref a, rfl, a, _, rfl, .inl (SqL.of aH), t, _, n + 1 + 2 * i + 1, rfl, by rw [List.length_map]; omega, by rw [List.length_map]; omega, T3, by omega, fun r2 H4 x4 T4 h40 h41 => ?_⟩
        rw [List.length_map] at h41
        obtain ⟨m0, hm0, hat0⟩ := str_at' h40 h41
        have hml := (hms m0 hm0).1
        have hmm : (Str.ofString "<" ++ m0 ++ Str.ofString ">").length ≤ 18 := by
          rw [cp_add, cp_add]
          show 1 + m0.length + 1 ≤ 18
          omega
        refine ⟨a, _, r2, _, rfl, rfl, SqL.of (x4 _ _ hat aH), hat0, _, m0, rfl, rfl, szT _ (by show 1 + m0.length ≤ _; omega), _, _, rfl, rfl, szT _ (by rw [cp_add]; show 1 + m0.length + 1 ≤ _; omega), ?_⟩
        have xx : Ex t (upd H sl (.lst (lits.map V.str))) H4 := ((xG.trans (Same.ex sz)).trans x3).trans x4
        have hmo : PyData.strOk (Str.ofString "<" ++ m0 ++ Str.ofString ">") = true := ok_add (ok_add (by decide +kernel) (hms m0 hm0).2) (by decide +kernel)
        generalize Str.ofString "<" ++ m0 ++ Str.ofString ">" = m at *
        refine ⟨.str f', rfl, .str m, rfl, f', m, rfl, rfl, szT _ (by omega), _, rfl, szT _ (by rw [cp_add]; omega), _, 40, rfl, rfl, _, rfl, ite2 (fun h => ⟨.str f', rfl, .str m, rfl, f', m, rfl, rfl, szT _ (by omega), _, _, f' ++ m, rfl, ?_, ?_, ?_, ok_add hfo hmo⟩) (fun h => ⟨_, _, f', rfl, ?_, ?_, hf', hfo⟩)⟩
        · exact xx
        · exact T4.mono (by omega)
        · have := of_decide_eq_true h
          rw [cp_add] at this ⊢
          omega
        · exact xx
        · exact T4.mono (by omega)
      · have sH := x3 _ _ nslt (sz _ _ sG)
        refine ⟨.ref sl, rfl, .ref t, rfl, t, 14, n + 1 + 2 * i + 1, rfl, by decide, by decide, T3, by omega, fun r2 H4 x4 T4 h40 h41 => ?_⟩
        obtain ⟨m, hm0, hat0⟩ := str_at' (ws := lits) h40 h41
        obtain ⟨hmm, hmo⟩ := lits_len m hm0
        refine ⟨sl, _, r2, _, rfl, rfl, SqL.of (x4 _ _ nslt sH), hat0, ?_⟩
        have xx : Ex t (upd H sl (.lst (lits.map V.str))) H4 := ((xG.trans (Same.ex sz)).trans x3).trans x4
        refine ⟨.str f', rfl, .str m, rfl, f', m, rfl, rfl, szT _ (by omega), _, rfl, szT _ (by rw [cp_add]; omega), _, 40, rfl, rfl, _, rfl, ite2 (fun h => ⟨.str f', rfl, .str m, rfl, f', m, rfl, rfl, szT _ (by omega), _, _, f' ++ m, rfl, ?_, ?_, ?_, ok_add hfo hmo⟩) (fun h => ⟨_, _, f', rfl, ?_, ?_, hf', hfo⟩)⟩
        · exact xx
        · exact T4.mono (by omega)
        · have := of_decide_eq_true h
          rw [cp_add] at this ⊢
          omega
        · exact xx
        · exact T4.mono (by omega)
    · rintro σ G ⟨y4, y5, f', rfl, xG, TG, hf', hfo⟩
      exact ⟨.str f', rfl, q _ _ ((Same.ex s1).trans xG) (TG.mono (by omega)) ⟨hf', hfo⟩⟩
def spCast : Sp := fun vs H Q _ => ∃ (t : Addr) (n : Nat), vs = [.ref t] ∧ TapeAt H t n ∧ n ≤ 700000 ∧ ∀ (w : Addr) (H' : Hp) (C : Cst) (kvs : List (Key × V)) (fv : V), Ex t H H' → TapeAt H' t (n + 200) → H w = none → CastAt H' t w C kvs fv → C.Ok → Q (.ref w) H'
theorem ok_cast {f fD fN fK fF : Addr} {fd fdD fdN fdK fdF : FuncData} {k : Nat} (F : Fun K "_law_cast" "_law_cast" sCast f fd)
    (FD : Fun K "_law_draw" "_law_draw" sDraw fD fdD) (bD : Binds K fdD ["_law_tape_here", "_law_many"] []) (gD : mg "_law_draw" = some (.ref fD)) (GD : FnOk P w K mg base CX0 (k + 4) fD fdD ["_law_tape_here", "_law_many"] spDraw)
    (FN : Fun K "_law_names" "_law_names" sNames fN fdN) (bN : Binds K fdN ["_law_tape_here", "_law_many"] []) (gN : mg "_law_names" = some (.ref fN)) (GN : FnOk P w K mg base CX0 (k + 4) fN fdN ["_law_tape_here", "_law_many"] spNames)
    (FK : Fun K "_law_kind_names" "_law_kind_names" sKinds fK fdK) (bK : Binds K fdK ["_law_tape_here", "_law_many"] []) (gK : mg "_law_kind_names" = some (.ref fK)) (GK : FnOk P w K mg base CX0 (k + 4) fK fdK ["_law_tape_here", "_law_many"] spKinds)
    (FF : Fun K "_law_facets" "_law_facets" sFacets fF fdF) (bF : Binds K fdF ["_law_tape_here", "_law_many", "_law_most"] []) (gF : mg "_law_facets" = some (.ref fF)) (GF : FnOk P w K mg base CX0 (k + 4) fF fdF ["_law_tape_here", "_law_many", "_law_most"] spFacets) : FnOk P w K mg base CX0 (k + 5) f fd ["_law_tape_here"] spCast := by
  refine F.ok scCast (fun vs H Q E h => ?_) (fun cdv A outer s H vs Q E hr h => ?_)
  · obtain ⟨t, n, rfl, _⟩ := h
    rfl
  · obtain ⟨t, n, rfl, hT, hn, q⟩ := h
    refine ⟨_, (pss_cons (ps_par (i := 1) (j := 2) rfl scCast.nd rfl rfl (by decide) rfl rfl (pa_cons (pe_call GN hr (by rfl) gN FN.kp bN .nil pass0 (pa_cons (pv 0) (pa_cons pe_int pa_nil))) (pa_cons (pe_call GK hr (by rfl) gK FK.kp bK .nil pass0 (pa_cons (pv 0) (pa_cons pe_int pa_nil))) pa_nil)) rfl)
        (pss_cons (ps_set (i := 3) scCast.nd rfl (.inl rfl) (pe_disp (pps_cons pe_str (pe_call GF hr (by rfl) gF FF.kp bF .nil pass0 (pa_cons (pv 0) (pa_cons (pe_op op_add pe_int (pe_call GD hr (by rfl) gD FD.kp bD .nil pass0 (pa_cons (pv 0) (pa_cons pe_int pa_nil)))) (pa_cons (pe_op op_add pe_int (pe_call GD hr (by rfl) gD FD.kp bD .nil pass0 (pa_cons (pv 0) (pa_cons pe_int pa_nil)))) pa_nil)))) (pps_cons pe_str (pe_slice sl_list (pv 2) po_none (po_some pe_int)) pps_nil)) (by rfl) (by rfl) (fun z => by cases z) (by decide)))
        (pss_cons (ps_expr (pe_bm PySem.F.plainAttrs_dict PySem.F.slot_dict_update PySem.F.type_dict_update mt_updD (pv 3) (pa_cons (pe_disp (pps_cons pe_str (pe_slice sl_list (pv 2) (po_some pe_int) po_none) (pps_cons pe_str (pe_slice sl_list (pv 1) po_none (po_some pe_int)) (pps_cons pe_str (pe_slice sl_list (pv 1) (po_some pe_int) (po_some pe_int)) (pps_cons pe_str (pe_slice sl_list (pv 1) (po_some pe_int) (po_some pe_int)) pps_nil)))) (by rfl) (by rfl) (fun z => by cases z) (by decide)) pa_nil)))
        (pss_cons (ps_expr (pe_bm PySem.F.plainAttrs_dict PySem.F.slot_dict_update PySem.F.type_dict_update mt_updD (pv 3) (pa_cons (pe_disp (pps_cons pe_str (pe_slice sl_list (pv 1) (po_some pe_int) (po_some pe_int)) (pps_cons pe_str (pe_call GN hr (by rfl) gN FN.kp bN .nil pass0 (pa_cons (pv 0) (pa_cons pe_int pa_nil))) (pps_cons pe_str (pe_lst (pa_cons pe_str (pa_cons pe_str (pa_cons pe_str (pa_cons pe_str (pa_cons pe_str (pa_cons pe_str pa_nil))))))) pps_nil))) (by rfl) (by rfl) (fun z => by cases z) (by decide)) pa_nil)))
        (pss_cons (ps_dput (hu1 hr) (pv 3) pe_str (pe_ix ix_list (pv 1) pe_int (fun _ _ => rfl)) rfl)
        (pss_one (ps_ret (pv 3)))))))), ?_⟩
    -- names, kinds
    refine ⟨.ref t, rfl, t, 24, n, rfl, by decide, hT, by omega, fun p1 H1 ws x1 T1 n1 e1 l1 w1 nd1 _ => ⟨.ref t, rfl, t, 6, n + 12, rfl, by decide, T1, by omega, fun p2 H2 ks x2 T2 n2 e2 l2 k2 _ => ⟨_, _, rfl, ?_⟩⟩⟩
    have np1 := hT.ne_none n1
    have np2 := T1.ne_none n2
    have e1 := x2 _ _ np1 e1
    -- the dict
    refine fun dp ndp => ?_
    have ndt := T2.ne_none ndp
    have s3 := same_upd (o := .dK []) ndp
    have T3 := T2.same s3
    refine ⟨.ref t, rfl, .ref t, rfl, t, 3, n + 24, rfl, by decide, by decide, T3, by omega, fun r3 H3 x3 T3' h30 h31 => ⟨1, r3, rfl, rfl, ?_⟩⟩
    obtain ⟨r3', rfl⟩ : ∃ r' : Nat, r3 = r' := ⟨r3.toNat, by omega⟩
    refine ⟨.ref t, rfl, t, 2, n + 25, rfl, by decide, by decide, T3', by omega, fun r4 H4 x4 T4 h40 h41 => ⟨2, r4, rfl, rfl, t, 1 + r3', n + 26, 2 + r4, by rfl, by omega, by omega, by omega, T4, by omega, fun fv H5 fs x5 T5 hfv hfl hfo hup => ?_⟩⟩
    have x35 : Ex t (upd H2 dp (.dK [])) H5 := (x3.trans x4).trans x5
    have x05 : Ex t H H5 := ((x1.trans x2).trans (Same.ex s3)).trans x35
    have p15 := x35 _ _ np1 (s3 _ _ e1)
    have p25 := x35 _ _ np2 (s3 _ _ e2)
    have d5 := x35 _ _ ndt upd_same
    have ndH : H dp = none := (x1.trans x2).free ndt ndp
    clear x1 x2 x3 x4 x5 s3 T3 T3' T4 e1 e2
    refine ⟨.ref p2, rfl, 3, rfl, p2, _, rfl, SqL.of p25, fun s1 ns1 => ?_⟩
    have hs1 : cutV (ks.map V.str) none (some 3) = (ks.take 3).map V.str := by
      rw [cut_strs, l2]
      rfl
    rw [hs1]
    have q1 := same_upd (o := .lst ((ks.take 3).map V.str)) ns1
    have ns1t := T5.ne_none ns1
    refine ⟨q1 _ _ d5, [(ky "facets", fv), (ky "wordy", .ref s1)], rfl, by show 2 ≤ 15; decide, ?_⟩
    have d5' := q1 _ _ d5
    have f1 := upd_dict (o' := .dK (mergeK [] [(ky "facets", fv), (ky "wordy", .ref s1)])) d5' (q1 _ _ p15)
    have f2 := upd_dict (o' := .dK (mergeK [] [(ky "facets", fv), (ky "wordy", .ref s1)])) d5' (q1 _ _ p25)
    have f3 := upd_dict (o' := .dK (mergeK [] [(ky "facets", fv), (ky "wordy", .ref s1)])) d5' (upd_same : upd H5 s1 (.lst ((ks.take 3).map V.str)) s1 = _)
    have fF := (hfv.same q1).keep (keepT_dict (o' := .dK (mergeK [] [(ky "facets", fv), (ky "wordy", .ref s1)])) d5') (imm_dF fs)
    have fT := (T5.same q1).upd (o := .dK (mergeK [] [(ky "facets", fv), (ky "wordy", .ref s1)])) ndt
    have fX : Ex t H (upd (upd H5 s1 (.lst ((ks.take 3).map V.str))) dp (.dK (mergeK [] [(ky "facets", fv), (ky "wordy", .ref s1)]))) := (x05.trans (Same.ex q1)).upd_free ndH
    have fD : upd (upd H5 s1 (.lst ((ks.take 3).map V.str))) dp (.dK (mergeK [] [(ky "facets", fv), (ky "wordy", .ref s1)])) dp = some (.dK (mergeK [] [(ky "facets", fv), (ky "wordy", .ref s1)])) := upd_same
    generalize upd (upd H5 s1 (.lst ((ks.take 3).map V.str))) dp (.dK (mergeK [] [(ky "facets", fv), (ky "wordy", .ref s1)])) = G0 at *
    generalize hkA : mergeK [] [(ky "facets", fv), (ky "wordy", .ref s1)] = kA at *
    clear q1 d5 d5' p15 p25 hfv T5 x05 x35
    -- four more
    refine ⟨.ref dp, rfl, .inr (.inr (.inl ⟨rfl, .inl ⟨_, fD⟩⟩)), fun d2 nd2 => ?_⟩
    have nd2t := fT.ne_none nd2
    have q2 := same_upd (o := .dK []) nd2
    refine ⟨.ref p2, rfl, 3, rfl, p2, _, rfl, SqL.of (q2 _ _ f2), fun a1 na1 => ?_⟩
    have hc1 : cutV (ks.map V.str) (some 3) none = (ks.drop 3).map V.str := by
      rw [cut_strs, l2]
      show ((ks.drop 3).take 3).map V.str = _
      rw [List.take_of_length_le (by rw [List.length_drop]; omega)]
    rw [hc1]
    have q3 := same_upd (o := .lst ((ks.drop 3).map V.str)) na1
    have q23 := Same.trans q2 q3
    refine ⟨.ref p1, rfl, 5, rfl, p1, _, rfl, SqL.of (q23 _ _ f1), fun a2 na2 => ?_⟩
    have hc2 : cutV (ws.map V.str) none (some 5) = (ws.take 5).map V.str := by
      rw [cut_strs, l1]
      rfl
    rw [hc2]
    have q4 := same_upd (o := .lst ((ws.take 5).map V.str)) na2
    have q24 := Same.trans q23 q4
    refine ⟨.ref p1, rfl, 5, rfl, 13, rfl, p1, _, rfl, SqL.of (q24 _ _ f1), fun a3 na3 => ?_⟩
    have hc3 : cutV (ws.map V.str) (some 5) (some 13) = ((ws.drop 5).take 8).map V.str := by
      rw [cut_strs, l1]
      rfl
    rw [hc3]
    have q5 := same_upd (o := .lst (((ws.drop 5).take 8).map V.str)) na3
    have q25 := Same.trans q24 q5
    refine ⟨.ref p1, rfl, 13, rfl, 15, rfl, p1, _, rfl, SqL.of (q25 _ _ f1), fun a4 na4 => ?_⟩
    have hc4 : cutV (ws.map V.str) (some 13) (some 15) = ((ws.drop 13).take 2).map V.str := by
      rw [cut_strs, l1]
      rfl
    rw [hc4]
    have q6 := same_upd (o := .lst (((ws.drop 13).take 2).map V.str)) na4
    have q26 := Same.trans q25 q6
    have dd2 := Same.trans (Same.trans q3 q4) (Same.trans q5 q6) _ _ (upd_same : upd G0 d2 (.dK []) d2 = _)
    refine ⟨dd2, [(ky "boxes", .ref a1), (ky "parts", .ref a2), (ky "own", .ref a3), (ky "ties", .ref a4)], rfl, by show 4 ≤ 15; decide, ?_⟩
    have q46 := Same.trans q4 (Same.trans q5 q6)
    have q56 := Same.trans q5 q6
    have b1 : ∀ {x : Addr} {l : List V}, G0 x = some (.lst l) → upd _ d2 (.dK (mergeK [] [(ky "boxes", .ref a1), (ky "parts", .ref a2), (ky "own", .ref a3), (ky "ties", .ref a4)])) x = some (.lst l) := fun h => upd_dict dd2 (q26 _ _ h)
    have b2 := upd_dict (o' := .dK (mergeK [] [(ky "boxes", .ref a1), (ky "parts", .ref a2), (ky "own", .ref a3), (ky "ties", .ref a4)])) dd2 (q46 _ _ (upd_same : upd _ a1 (.lst ((ks.drop 3).map V.str)) a1 = _))
    have b3 := upd_dict (o' := .dK (mergeK [] [(ky "boxes", .ref a1), (ky "parts", .ref a2), (ky "own", .ref a3), (ky "ties", .ref a4)])) dd2 (q56 _ _ (upd_same : upd _ a2 (.lst ((ws.take 5).map V.str)) a2 = _))
    have b4 := upd_dict (o' := .dK (mergeK [] [(ky "boxes", .ref a1), (ky "parts", .ref a2), (ky "own", .ref a3), (ky "ties", .ref a4)])) dd2 (q6 _ _ (upd_same : upd _ a3 (.lst (((ws.drop 5).take 8).map V.str)) a3 = _))
    have b5 := upd_dict (o' := .dK (mergeK [] [(ky "boxes", .ref a1), (ky "parts", .ref a2), (ky "own", .ref a3), (ky "ties", .ref a4)])) dd2 (upd_same : upd _ a4 (.lst (((ws.drop 13).take 2).map V.str)) a4 = _)
    have bF := (fF.same q26).keep (keepT_dict (o' := .dK (mergeK [] [(ky "boxes", .ref a1), (ky "parts", .ref a2), (ky "own", .ref a3), (ky "ties", .ref a4)])) dd2) (imm_dF fs)
    have bT := (fT.same q26).upd (o := .dK (mergeK [] [(ky "boxes", .ref a1), (ky "parts", .ref a2), (ky "own", .ref a3), (ky "ties", .ref a4)])) nd2t
    have nd2p : dp ≠ d2 := fun e => by
      subst e
      rw [fD] at nd2
      cases nd2
    have nd2H : H d2 = none := fX.free nd2t nd2
    have bX := (fX.trans (Same.ex q26)).upd_free (o := .dK (mergeK [] [(ky "boxes", .ref a1), (ky "parts", .ref a2), (ky "own", .ref a3), (ky "ties", .ref a4)])) nd2H
    have na1t := (fT.same q2).ne_none na1
    have na2t := (fT.same q23).ne_none na2
    have na3t := (fT.same q24).ne_none na3
    have na4t := (fT.same q25).ne_none na4
    have bD : upd (upd (upd (upd (upd (upd G0 d2 (.dK [])) a1 (.lst ((ks.drop 3).map V.str))) a2 (.lst ((ws.take 5).map V.str))) a3 (.lst (((ws.drop 5).take 8).map V.str))) a4 (.lst (((ws.drop 13).take 2).map V.str))) d2 (.dK (mergeK [] [(ky "boxes", .ref a1), (ky "parts", .ref a2), (ky "own", .ref a3), (ky "ties", .ref a4)])) dp = some (.dK kA) := by
      rw [upd_ne nd2p]
      exact q26 _ _ fD
    have b1p := b1 f1
    have b1s := b1 f3
    clear b1 f1 f2 f3 fF fT fX dd2 q2 q3 q4 q5 q6 q23 q24 q25 q26 q46 q56
    have bE : upd (upd (upd (upd (upd (upd G0 d2 (.dK [])) a1 (.lst ((ks.drop 3).map V.str))) a2 (.lst ((ws.take 5).map V.str))) a3 (.lst (((ws.drop 5).take 8).map V.str))) a4 (.lst (((ws.drop 13).take 2).map V.str))) d2 (.dK (mergeK [] [(ky "boxes", .ref a1), (ky "parts", .ref a2), (ky "own", .ref a3), (ky "ties", .ref a4)])) d2 = some (.dK (mergeK [] [(ky "boxes", .ref a1), (ky "parts", .ref a2), (ky "own", .ref a3), (ky "ties", .ref a4)])) := upd_same
    generalize upd (upd (upd (upd (upd (upd G0 d2 (.dK [])) a1 (.lst ((ks.drop 3).map V.str))) a2 (.lst ((ws.take 5).map V.str))) a3 (.lst (((ws.drop 5).take 8).map V.str))) a4 (.lst (((ws.drop 13).take 2).map V.str))) d2 (.dK (mergeK [] [(ky "boxes", .ref a1), (ky "parts", .ref a2), (ky "own", .ref a3), (ky "ties", .ref a4)])) = G1 at *
    have hlA : kA.length ≤ 2 := by
      rw [← hkA]
      exact length_mergeK [(ky "facets", fv), (ky "wordy", .ref s1)] []
    have hlB : (mergeK [] [(ky "boxes", V.ref a1), (ky "parts", .ref a2), (ky "own", .ref a3), (ky "ties", .ref a4)]).length ≤ 4 := length_mergeK [(ky "boxes", V.ref a1), (ky "parts", .ref a2), (ky "own", .ref a3), (ky "ties", .ref a4)] []
    generalize hkB : mergeK [] [(ky "boxes", V.ref a1), (ky "parts", .ref a2), (ky "own", .ref a3), (ky "ties", .ref a4)] = kB at *
    refine ⟨dp, d2, kA, kB, rfl, rfl, bD, bE, nd2p, by omega, ?_⟩
    have c1 := upd_dict (o' := .dK (mergeK kA kB)) bD b1p
    have c2 := upd_dict (o' := .dK (mergeK kA kB)) bD b1s
    have c3 := upd_dict (o' := .dK (mergeK kA kB)) bD b2
    have c4 := upd_dict (o' := .dK (mergeK kA kB)) bD b3
    have c5 := upd_dict (o' := .dK (mergeK kA kB)) bD b4
    have c6 := upd_dict (o' := .dK (mergeK kA kB)) bD b5
    have cF := bF.keep (keepT_dict (o' := .dK (mergeK kA kB)) bD) (imm_dF fs)
    have cT := bT.upd (o := .dK (mergeK kA kB)) ndt
    have cX := bX.upd_free (o := .dK (mergeK kA kB)) ndH
    have cD : upd G1 dp (.dK (mergeK kA kB)) dp = some (.dK (mergeK kA kB)) := upd_same
    have hlC : (mergeK kA kB).length ≤ 6 := Nat.le_trans (length_mergeK kB kA) (by omega)
    generalize upd G1 dp (.dK (mergeK kA kB)) = G2 at *
    generalize hkC : mergeK kA kB = kC at *
    clear bD bE b1p b1s b2 b3 b4 b5 bF bT bX
    -- three more
    refine ⟨.ref dp, rfl, .inr (.inr (.inl ⟨rfl, .inl ⟨_, cD⟩⟩)), fun d3 nd3 => ?_⟩
    have nd3t := cT.ne_none nd3
    have q2 := same_upd (o := .dK []) nd3
    refine ⟨.ref p1, rfl, 15, rfl, 19, rfl, p1, _, rfl, SqL.of (q2 _ _ c1), fun a5 na5 => ?_⟩
    have hc5 : cutV (ws.map V.str) (some 15) (some 19) = ((ws.drop 15).take 4).map V.str := by
      rw [cut_strs, l1]
      rfl
    rw [hc5]
    have q3 := same_upd (o := .lst (((ws.drop 15).take 4).map V.str)) na5
    have q23 := Same.trans q2 q3
    have na5t := (cT.same q2).ne_none na5
    have T6 := cT.same q23
    refine ⟨.ref t, rfl, t, 10, n + 126, rfl, by decide, T6, by omega, fun a6 H6 vs x6 T7 na6 e6 l6 w6 _ _ => ?_⟩
    refine ⟨by show 6 ≤ sizeLine; decide, fun a7 na7 => ?_⟩
    have q7 := same_upd (o := .lst [V.str (Str.ofString "Ab"), V.str (Str.ofString "ab"), V.str (Str.ofString "aB"), V.str (Str.ofString "zeta"), V.str (Str.ofString "Beta 2"), V.str (Str.ofString "b")]) na7
    have na7t := T7.ne_none na7
    have x27 : Ex t G2 (upd H6 a7 (.lst [V.str (Str.ofString "Ab"), V.str (Str.ofString "ab"), V.str (Str.ofString "aB"), V.str (Str.ofString "zeta"), V.str (Str.ofString "Beta 2"), V.str (Str.ofString "b")])) := ((Same.ex q23).trans x6).trans (Same.ex q7)
    have dd3 := q7 _ _ (x6 _ _ nd3t (q3 _ _ (upd_same : upd G2 d3 (.dK []) d3 = _)))
    have g5 := q7 _ _ (x6 _ _ na5t (upd_same : upd _ a5 (.lst (((ws.drop 15).take 4).map V.str)) a5 = _))
    have g7 : upd H6 a7 (.lst [V.str (Str.ofString "Ab"), V.str (Str.ofString "ab"), V.str (Str.ofString "aB"), V.str (Str.ofString "zeta"), V.str (Str.ofString "Beta 2"), V.str (Str.ofString "b")]) a7 = some (.lst (mains6.map V.str)) := upd_same
    have gT := T7.same q7
    have gD := x27 _ _ ndt cD
    have gF := cF.keep (cT.keepT x27) (imm_dF fs)
    have ns1t' : s1 ≠ t := ns1t
    have g1 := x27 _ _ np1 c1
    have g2 := x27 _ _ ns1t c2
    have g3 := x27 _ _ na1t c3
    have g4 := x27 _ _ na2t c4
    have g6 := x27 _ _ na3t c5
    have g8 := x27 _ _ na4t c6
    have gX := cX.trans x27
    have nd3p : dp ≠ d3 := fun e => by
      subst e
      rw [cD] at nd3
      cases nd3
    have nd3H : H d3 = none := cX.free nd3t nd3
    generalize upd H6 a7 (.lst [V.str (Str.ofString "Ab"), V.str (Str.ofString "ab"), V.str (Str.ofString "aB"), V.str (Str.ofString "zeta"), V.str (Str.ofString "Beta 2"), V.str (Str.ofString "b")]) = G3 at *
    clear q2 q3 q23 x6 T7 e6 q7 x27 c1 c2 c3 c4 c5 c6 cF cT cX cD T6
    refine ⟨dd3, [(ky "keys", .ref a5), (ky "nodes", .ref a6), (ky "mains", .ref a7)], rfl, by show 3 ≤ 15; decide, ?_⟩
    have hlD : (mergeK [] [(ky "keys", V.ref a5), (ky "nodes", .ref a6), (ky "mains", .ref a7)]).length ≤ 3 := length_mergeK [(ky "keys", V.ref a5), (ky "nodes", .ref a6), (ky "mains", .ref a7)] []
    generalize hkD : mergeK [] [(ky "keys", V.ref a5), (ky "nodes", .ref a6), (ky "mains", .ref a7)] = kD at *
    have m1 : ∀ {x : Addr} {l : List V}, G3 x = some (.lst l) → upd G3 d3 (.dK kD) x = some (.lst l) := fun h => upd_dict dd3 h
    have mD : upd G3 d3 (.dK kD) dp = some (.dK kC) := by
      rw [upd_ne nd3p]
      exact gD
    refine ⟨dp, d3, kC, kD, rfl, rfl, mD, upd_same, nd3p, by omega, ?_⟩
    have m2 : ∀ {x : Addr} {l : List V}, G3 x = some (.lst l) → upd (upd G3 d3 (.dK kD)) dp (.dK (mergeK kC kD)) x = some (.lst l) := fun h => upd_dict mD (m1 h)
    have mF := (gF.keep (keepT_dict (o' := .dK kD) dd3) (imm_dF fs)).keep (keepT_dict (o' := .dK (mergeK kC kD)) mD) (imm_dF fs)
    have mT := (gT.upd (o := .dK kD) nd3t).upd (o := .dK (mergeK kC kD)) ndt
    have mX := (gX.upd_free (o := .dK kD) nd3H).upd_free (o := .dK (mergeK kC kD)) ndH
    have mE : upd (upd G3 d3 (.dK kD)) dp (.dK (mergeK kC kD)) dp = some (.dK (mergeK kC kD)) := upd_same
    have hlE : (mergeK kC kD).length ≤ 9 := Nat.le_trans (length_mergeK kD kC) (by omega)
    have w1' := m2 g1
    have w2 := m2 g2
    have w3 := m2 g3
    have w4 := m2 g4
    have w5 := m2 g5
    have w6' := m2 g6
    have w7 := m2 g7
    have w8 := m2 g8
    generalize upd (upd G3 d3 (.dK kD)) dp (.dK (mergeK kC kD)) = G4 at *
    clear m1 m2 mD gF gT gX dd3 g1 g2 g3 g4 g5 g6 g7 g8 gD
    -- one more
    have hat : atI (ws.map V.str) 19 = some (.str (ws[19]'(by omega))) := by
      have : atI (ws.map V.str) ((19 : Nat) : Int) = some (.str (ws[19]'(by omega))) := atI_nat (by rw [List.getElem?_map, List.getElem?_eq_getElem (by omega)]; rfl)
      exact this
    refine ⟨.ref p1, rfl, p1, _, 19, _, rfl, rfl, SqL.of w1', hat, .ref dp, rfl, dp, _, rfl, DPut.k (k := ky "nokey") mE (small1000 (by omega)), ?_⟩
    have v2 : ∀ {x : Addr} {l : List V} (o' : HO), G4 x = some (.lst l) → upd G4 dp o' x = some (.lst l) := fun o' h => upd_dict mE h
    refine ⟨.ref dp, rfl, q dp _ ⟨fs, ks.take 3, ks.drop 3, ws.take 5, (ws.drop 5).take 8, (ws.drop 13).take 2, (ws.drop 15).take 4⟩ (putK (mergeK kC kD) (ky "nokey") (.str (ws[19]'(by omega)))) fv (mX.upd_free ndH) ((mT.upd ndt).mono (by omega)) ndH ?_ ?_⟩
    · have hk : ∀ k : Key, k ≠ ky "nokey" → valV (putK (mergeK kC kD) (ky "nokey") (.str (ws[19]'(by omega)))) k = valV (mergeK kC kD) k := fun k hk => by
        rw [valV_put, if_neg hk]
      refine ⟨upd_same, ndt, ?_, mF.keep (keepT_dict mE) (imm_dF fs), ⟨s1, ?_, ns1t, v2 _ w2⟩, ⟨a1, ?_, na1t, v2 _ w3⟩, ⟨a2, ?_, na2t, v2 _ w4⟩, ⟨a3, ?_, na3t, v2 _ w6'⟩, ⟨a4, ?_, na4t, v2 _ w8⟩, ⟨a5, ?_, na5t, v2 _ w5⟩, ⟨a7, ?_, na7t, v2 _ w7⟩⟩
      all_goals
        rw [hk _ (by decide +kernel), ← hkD, ← hkC, ← hkB, ← hkA]
        kernel_rfl
    · have hsub : ∀ {xs ys : List Str} {p : Str → Prop}, (∀ x ∈ ys, p x) → (∀ x ∈ xs, x ∈ ys) → ∀ x ∈ xs, p x := fun h h2 x hx => h x (h2 x hx)
      exact ⟨hfo, by show 1 ≤ fs.length; omega, by show fs.length ≤ 3; omega, pairwise_nodup hup, by show (ks.take 3).length = 3; rw [List.length_take]; omega, by show (ks.drop 3).length = 3; rw [List.length_drop]; omega, by show (ws.take 5).length = 5; rw [List.length_take]; omega, by show ((ws.drop 5).take 8).length = 8; rw [List.length_take, List.length_drop]; omega, by show ((ws.drop 13).take 2).length = 2; rw [List.length_take, List.length_drop]; omega, by show ((ws.drop 15).take 4).length = 4; rw [List.length_take, List.length_drop]; omega,
        hsub k2 fun x hx => List.mem_of_mem_take hx, hsub k2 fun x hx => List.mem_of_mem_drop hx, hsub w1 fun x hx => List.mem_of_mem_take hx, hsub w1 fun x hx => List.mem_of_mem_drop (List.mem_of_mem_take hx), hsub w1 fun x hx => List.mem_of_mem_drop (List.mem_of_mem_take hx), hsub w1 fun x hx => List.mem_of_mem_drop (List.mem_of_mem_take hx)⟩

/-! ### things that are no elements -/
def IOk (ws : List Str) : Prop := ∃ (u : Str) (us : List Str), ws = u :: us ∧ u ∈ four ∧ us.length ≤ 3 ∧ ∀ x ∈ us, Tx 40 x
def spInl : Sp := fun vs H Q _ => ∃ (t w : Addr) (n : Nat) (C : Cst) (kvs : List (Key × V)) (fv : V), vs = [.ref t, .ref w] ∧ TapeAt H t n ∧ n ≤ 800000 ∧ CastAt H t w C kvs fv ∧ C.Ok ∧ ∀ (v : V) (H' : Hp) (ws : List Str), Ex t H H' → TapeAt H' t (n + 30) → Rp H' v (dW ws) → IOk ws → Q v H'
theorem ok_inl {f fD fT : Addr} {fd fdD fdT : FuncData} {k : Nat} (F : Fun K "_law_inline" "_law_inline" sInl f fd)
    (FD : Fun K "_law_draw" "_law_draw" sDraw fD fdD) (bD : Binds K fdD ["_law_tape_here", "_law_many"] []) (gD : mg "_law_draw" = some (.ref fD)) (GD : FnOk P w K mg base CX0 (k + 2) fD fdD ["_law_tape_here", "_law_many"] spDraw)
    (FT : Fun K "_law_text" "_law_text" sText fT fdT) (bT : Binds K fdT ["_law_tape_here", "_law_marks"] []) (gT : mg "_law_text" = some (.ref fT)) (GT : FnOk P w K mg base CX0 (k + 2) fT fdT ["_law_tape_here", "_law_marks"] spText) : FnOk P w K mg base CX0 (k + 3) f fd ["_law_tape_here", "_law_w"] spInl := by
  refine F.ok scInl (fun vs H Q E h => ?_) (fun cdv A outer s H vs Q E hr h => ?_)
  · obtain ⟨t, w', n, C, kvs, fv, rfl, _⟩ := h
    rfl
  · obtain ⟨t, w', n, C, kvs, fv, rfl, hT, hn, hC, hO, q⟩ := h
    refine ⟨_, (pss_cons (ps_set (i := 2) scInl.nd rfl (.inl rfl) (pe_call GD hr (by rfl) gD FD.kp bD .nil pass0 (pa_cons (pv 0) (pa_cons pe_int pa_nil))))
        (pss_cons (ps_if (pt_cmpR op_eq (pv 2) pe_int (nomark _)) (pss_cons (ps_set (i := 3) scInl.nd rfl (.inl rfl) (pe_ix ix_list (pe_lst (pa_cons pe_str (pa_cons (pe_ix ix_list (pe_dget (hu1 hr) (pv 1) pe_str (fun _ _ => rfl)) (pe_call GD hr (by rfl) gD FD.kp bD .nil pass0 (pa_cons (pv 0) (pa_cons pe_int pa_nil))) (fun _ _ => rfl)) pa_nil))) (pe_call GD hr (by rfl) gD FD.kp bD .nil pass0 (pa_cons (pv 0) (pa_cons pe_int pa_nil))) (fun _ _ => rfl)))
        (pss_one (ps_ret (pe_tup (pa_cons pe_str (pa_cons (pe_ix ix_list (pe_dget (hu1 hr) (pv 1) pe_str (fun _ _ => rfl)) (pe_call GD hr (by rfl) gD FD.kp bD .nil pass0 (pa_cons (pv 0) (pa_cons pe_int pa_nil))) (fun _ _ => rfl)) (pa_cons (pv 3) (pa_cons (pe_ix ix_list (pe_lst (pa_cons pe_str (pa_cons pe_str pa_nil))) (pe_call GD hr (by rfl) gD FD.kp bD .nil pass0 (pa_cons (pv 0) (pa_cons pe_int pa_nil))) (fun _ _ => rfl)) pa_nil)))))))) pss_nil)
        (pss_cons (ps_if (pt_cmpR op_eq (pv 2) pe_int (nomark _)) (pss_one (ps_ret (pe_tup (pa_cons pe_str (pa_cons (pe_ix ix_list (pe_dget (hu1 hr) (pv 1) pe_str (fun _ _ => rfl)) (pe_call GD hr (by rfl) gD FD.kp bD .nil pass0 (pa_cons (pv 0) (pa_cons pe_int pa_nil))) (fun _ _ => rfl)) (pa_cons (pe_ix ix_list (pe_lst (pa_cons pe_str (pa_cons pe_str (pa_cons pe_str (pa_cons pe_str (pa_cons pe_str pa_nil)))))) (pe_call GD hr (by rfl) gD FD.kp bD .nil pass0 (pa_cons (pv 0) (pa_cons pe_int pa_nil))) (fun _ _ => rfl)) pa_nil)))))) pss_nil)
        (pss_one (ps_ret (pe_tup (pa_cons pe_str (pa_cons (pe_call GT hr (by rfl) gT FT.kp bT .nil pass0 (pa_cons (pv 0) (pa_cons (pe_dget (hu1 hr) (pv 1) pe_str (fun _ _ => rfl)) pa_nil))) pa_nil)))))))), ?_⟩
    refine ⟨.ref t, rfl, t, 4, n, rfl, by decide, by decide, hT, by omega, fun way H1 x1 T1 h10 h11 => ?_⟩
    have C1 := hC.ex hT x1
    refine ⟨_, rfl, rfl, _, rfl, ite2 (fun h2 => ?_) (fun h2 => ?_)⟩
    · -- a ref
      obtain ⟨ao, vo, nao, eo⟩ := C1.own
      refine ⟨.ref w', rfl, w', .ref ao, rfl, by have := DGet.k (k := ky "own") C1.dw; rw [vo] at this; exact this, .ref t, rfl, t, 8, n + 1, rfl, by decide, by decide, T1, by omega, fun r2 H2 x2 T2 h20 h21 => ?_⟩
      obtain ⟨o, ho, hoat⟩ := str_at' h20 (by rw [hO.lo]; exact h21)
      refine ⟨ao, _, r2, .str o, rfl, rfl, SqL.of (x2 _ _ nao eo), hoat, by show 2 ≤ sizeLine; decide, fun l nl => ?_⟩
      have sl := same_upd (o := .lst [.str (Str.ofString ""), .str o]) nl
      have nlt := T2.ne_none nl
      refine ⟨.ref t, rfl, t, 2, n + 2, rfl, by decide, by decide, T2.same sl, by omega, fun r3 H3 x3 T3 h30 h31 => ?_⟩
      obtain ⟨nm, hnm, hnmat⟩ := str_at' (ws := [Str.ofString "", o]) h30 h31
      have hnl : Tx 40 nm := by
        simp only [List.mem_cons, List.not_mem_nil, or_false] at hnm
        rcases hnm with rfl | rfl
        · exact ⟨by decide, by decide +kernel⟩
        · exact (hO.wo _ ho).tx.up (by decide)
      refine ⟨l, _, r3, .str nm, rfl, rfl, SqL.of (x3 _ _ nlt upd_same), hnmat, ?_⟩
      have x13 : Ex t H1 H3 := (x2.trans (Same.ex sl)).trans x3
      have C3 := C1.ex T1 x13
      obtain ⟨ap, vp, nap, ep⟩ := C3.parts
      refine ⟨.ref w', rfl, w', .ref ap, rfl, by have := DGet.k (k := ky "parts") C3.dw; rw [vp] at this; exact this, .ref t, rfl, t, 5, n + 3, rfl, by decide, by decide, T3, by omega, fun r4 H4 x4 T4 h40 h41 => ?_⟩
      obtain ⟨p, hp, hpat⟩ := str_at' h40 (by rw [hO.lp]; exact h41)
      refine ⟨ap, _, r4, .str p, rfl, rfl, SqL.of (x4 _ _ nap ep), hpat, .str nm, rfl, by show 2 ≤ sizeLine; decide, fun l2 nl2 => ?_⟩
      have s2 := same_upd (o := .lst [.str (Str.ofString "number"), .str (Str.ofString "title")]) nl2
      have nl2t := T4.ne_none nl2
      refine ⟨.ref t, rfl, t, 2, n + 4, rfl, by decide, by decide, T4.same s2, by omega, fun r5 H5 x5 T5 h50 h51 => ?_⟩
      obtain ⟨hw, hhw, hhwat⟩ := str_at' (ws := [Str.ofString "number", Str.ofString "title"]) h50 h51
      have hhl : Tx 40 hw := by
        simp only [List.mem_cons, List.not_mem_nil, or_false] at hhw
        rcases hhw with rfl | rfl <;> exact ⟨by decide, by decide +kernel⟩
      refine ⟨l2, _, r5, .str hw, rfl, rfl, SqL.of (x5 _ _ nl2t upd_same), hhwat, by show 4 ≤ sizeLine; decide, fun tp ntp => ?_⟩
      have s6 := same_upd (o := .tup [.str (Str.ofString "ref"), .str p, .str nm, .str hw]) ntp
      refine q _ _ [Str.ofString "ref", p, nm, hw] (((x1.trans x13).trans (x4.trans (Same.ex s2))).trans (x5.trans (Same.ex s6))) ((T5.same s6).mono (by omega)) (Rp.dW_mk upd_same) ⟨Str.ofString "ref", [p, nm, hw], rfl, by decide +kernel, by show 3 ≤ 3; decide, fun x hx => ?_⟩
      simp only [List.mem_cons, List.not_mem_nil, or_false] at hx
      rcases hx with rfl | rfl | rfl
      · exact (hO.wp _ hp).tx.up (by decide)
      · exact hnl
      · exact hhl
    · refine ⟨_, rfl, rfl, _, rfl, ite2 (fun h3 => ?_) (fun h3 => ?_)⟩
      · -- an entry
        obtain ⟨am, vm, nam, em⟩ := C1.mains
        refine ⟨.ref w', rfl, w', .ref am, rfl, by have := DGet.k (k := ky "mains") C1.dw; rw [vm] at this; exact this, .ref t, rfl, t, 6, n + 1, rfl, by decide, by decide, T1, by omega, fun r2 H2 x2 T2 h20 h21 => ?_⟩
        obtain ⟨m, hm, hmat⟩ := str_at' (ws := mains6) h20 h21
        refine ⟨am, _, r2, .str m, rfl, rfl, SqL.of (x2 _ _ nam em), hmat, by show 5 ≤ sizeLine; decide, fun l nl => ?_⟩
        have sl := same_upd (o := .lst [.str (Str.ofString ""), .str (Str.ofString ""), .str (Str.ofString "sub"), .str (Str.ofString "Sub"), .str (Str.ofString "a")]) nl
        have nlt := T2.ne_none nl
        refine ⟨.ref t, rfl, t, 5, n + 2, rfl, by decide, by decide, T2.same sl, by omega, fun r3 H3 x3 T3 h30 h31 => ?_⟩
        obtain ⟨sb, hsb, hsbat⟩ := str_at' (ws := [Str.ofString "", Str.ofString "", Str.ofString "sub", Str.ofString "Sub", Str.ofString "a"]) h30 h31
        have hsl : Tx 40 sb := by
          simp only [List.mem_cons, List.not_mem_nil, or_false] at hsb
          rcases hsb with rfl | rfl | rfl | rfl | rfl <;> exact ⟨by decide, by decide +kernel⟩
        refine ⟨l, _, r3, .str sb, rfl, rfl, SqL.of (x3 _ _ nlt upd_same), hsbat, by show 3 ≤ sizeLine; decide, fun tp ntp => ?_⟩
        have s6 := same_upd (o := .tup [.str (Str.ofString "entry"), .str m, .str sb]) ntp
        refine q _ _ [Str.ofString "entry", m, sb] ((x1.trans (x2.trans (Same.ex sl))).trans (x3.trans (Same.ex s6))) ((T3.same s6).mono (by omega)) (Rp.dW_mk upd_same) ⟨Str.ofString "entry", [m, sb], rfl, by decide +kernel, by show 2 ≤ 3; decide, fun x hx => ?_⟩
        simp only [List.mem_cons, List.not_mem_nil, or_false] at hx
        rcases hx with rfl | rfl
        · exact mains_len _ hm
        · exact hsl
      · -- a text
        obtain ⟨ak, vk, nak, ek⟩ := C1.keys
        refine ⟨.ref t, rfl, .ref w', rfl, w', .ref ak, rfl, by have := DGet.k (k := ky "keys") C1.dw; rw [vk] at this; exact this, t, ak, C.keys, n + 1, rfl, ek, nak, fun m hm => ⟨(hO.wk m hm).1, (hO.wk m hm).2.ok⟩, by rw [hO.lk]; decide, by rw [hO.lk]; decide, T1, by omega, fun x H2 x2 T2 hx => ⟨by show 2 ≤ sizeLine; decide, fun tp ntp => ?_⟩⟩
        have s6 := same_upd (o := .tup [.str (Str.ofString "text"), .str x]) ntp
        refine q _ _ [Str.ofString "text", x] ((x1.trans x2).trans (Same.ex s6)) ((T2.same s6).mono (by omega)) (Rp.dW_mk upd_same) ⟨Str.ofString "text", [x], rfl, by decide +kernel, by show 1 ≤ 3; decide, fun y hy => ?_⟩
        rw [List.mem_singleton.mp hy]
        exact hx

end
end Sg

namespace Sg
open PySem PySem.Spec PyProof.Rows L2
/-! ### things -/
inductive Th where
  | inl (ws : List Str)
  | el (k : Str) (hm : Option (Str × Str)) (w : Wn) (tie : Str) (ths : List Th)
def dHome : Option (Str × Str) → PyData
  | none => .tuple []
  | some p => .tuple [.str p.1, .str p.2]
mutual
def dTh : Th → PyData
  | .inl ws => dW ws
  | .el k hm w tie ths => .tuple [.str k, dHome hm, dN w, .str tie, .tuple (dThs ths)]
def dThs : List Th → List PyData
  | [] => []
  | t :: ts => dTh t :: dThs ts
end
theorem dThs_eq : ∀ ts, dThs ts = ts.map dTh
  | [] => by simp [dThs]
  | t :: ts => by rw [dThs, dThs_eq ts, List.map_cons]
theorem dTh_el (k : Str) (hm : Option (Str × Str)) (w : Wn) (tie : Str) (ths : List Th) : dTh (.el k hm w tie ths) = .tuple [.str k, dHome hm, dN w, .str tie, .tuple (ths.map dTh)] := by
  rw [dTh, dThs_eq]
theorem dTh_inl (ws : List Str) : dTh (.inl ws) = dW ws := by rw [dTh]
theorem imm_home (h : Option (Str × Str)) : imm (dHome h) = true := by
  cases h <;> rfl
mutual
theorem imm_dTh : ∀ t, imm (dTh t) = true
  | .inl ws => by rw [dTh]; exact imm_dW ws
  | .el k hm w tie ths => by
    rw [dTh]
    show (imm (.str k) && (imm (dHome hm) && (imm (dN w) && (imm (.str tie) && (immAll (dThs ths) && true))))) = true
    rw [imm_home, imm_dN, imm_dThs ths]
    rfl
theorem imm_dThs : ∀ ts, immAll (dThs ts) = true
  | [] => by rw [dThs]; rfl
  | t :: ts => by
    rw [dThs]
    show (imm (dTh t) && immAll (dThs ts)) = true
    rw [imm_dTh t, imm_dThs ts]
    rfl
end
def HOk (h : Option (Str × Str)) : Prop := ∀ p, h = some p → Tx 16 p.1 ∧ Tx 16 p.2
def TOk (fs : List (Str × List Str)) : Nat → Th → Prop
  | _, .inl ws => IOk ws
  | 0, .el _ _ _ _ _ => False
  | n + 1, .el k hm w tie ths => k ∉ four ∧ Tx 16 k ∧ HOk hm ∧ WOk fs w ∧ dep w ≤ 3 ∧ Tx 16 tie ∧ ths.length ≤ 4 ∧ ∀ t ∈ ths, TOk fs n t
theorem TOk.up {fs : List (Str × List Str)} : ∀ {n m : Nat} {t : Th}, n ≤ m → TOk fs n t → TOk fs m t
  | 0, 0, _, _, h => h
  | 0, m + 1, .inl ws, _, h => h
  | 0, m + 1, .el _ _ _ _ _, _, h => h.elim
  | n + 1, m + 1, .inl ws, _, h => h
  | n + 1, m + 1, .el k hm w tie ths, hl, h => ⟨h.1, h.2.1, h.2.2.1, h.2.2.2.1, h.2.2.2.2.1, h.2.2.2.2.2.1, h.2.2.2.2.2.2.1, fun t ht => TOk.up (Nat.le_of_succ_le_succ hl) (h.2.2.2.2.2.2.2 t ht)⟩
def IsEl : Th → Prop
  | .inl _ => False
  | .el _ _ _ _ _ => True
def mb : Nat → Nat
  | 0 => 0
  | k + 1 => 4 * mb k + 400
theorem mb_mono : ∀ {j k : Nat}, j ≤ k → mb j ≤ mb k
  | 0, k, _ => Nat.zero_le _
  | j + 1, 0, h => absurd h (Nat.not_succ_le_zero _)
  | j + 1, k + 1, h => by
    have := mb_mono (Nat.le_of_succ_le_succ h)
    show 4 * mb j + 400 ≤ 4 * mb k + 400
    omega
abbrev sMade : Stmt := topS 23
abbrev nMade : List Str := ["_law_tape_here", "_law_w", "_law_deep", "_law_boxed", "_law_kind", "_law_home", "_law_when_here", "_law_tie", "_law_things", "_law_k"]
theorem scMade : FnScope nMade ["_law_tape_here", "_law_w", "_law_deep"] (defScope sMade) := ⟨rfl, rfl, rfl, by decide +kernel, rfl, by decide +kernel, by decide +kernel⟩
section
variable {P : Program} {w : World} {K : PySem.W.Frag} {mg : Str → Option Value} {base : Heap}
def spMade (m : Nat) : Sp := fun vs H Q _ => ∃ (t w : Addr) (k N : Nat) (C : Cst) (kvs : List (Key × V)) (fv : V), vs = [.ref t, .ref w, .int (k : Int)] ∧ 1 ≤ k ∧ k ≤ m ∧ CastAt H t w C kvs fv ∧ C.Ok ∧ TapeAt H t N ∧ N + mb k ≤ 700000 ∧
  ∀ (v : V) (H' : Hp) (e : Th), Ex t H H' → TapeAt H' t (N + mb k) → Rp H' v (dTh e) → TOk C.fs k e → IsEl e → Q v H'
theorem ok_made {f fD fW fI : Addr} {fd fdD fdW fdI : FuncData} (F : Fun K "_law_made_of" "_law_made_of" sMade f fd) (b : Binds K fd ["_law_tape_here", "_law_w", "_law_deep"] []) (g : mg "_law_made_of" = some (.ref f))
    (FD : Fun K "_law_draw" "_law_draw" sDraw fD fdD) (bD : Binds K fdD ["_law_tape_here", "_law_many"] []) (gD : mg "_law_draw" = some (.ref fD)) (GDs : ∀ k, FnOk P w K mg base CX0 (k + 6) fD fdD ["_law_tape_here", "_law_many"] spDraw)
    (FW : Fun K "_law_when" "_law_when" sWhen fW fdW) (bW : Binds K fdW ["_law_tape_here", "_law_its_facets", "_law_deep"] []) (gW : mg "_law_when" = some (.ref fW)) (GWs : ∀ k, FnOk P w K mg base CX0 (k + 6) fW fdW ["_law_tape_here", "_law_its_facets", "_law_deep"] (spWhen 3))
    (FI : Fun K "_law_inline" "_law_inline" sInl fI fdI) (bI : Binds K fdI ["_law_tape_here", "_law_w"] []) (gI : mg "_law_inline" = some (.ref fI)) (GIs : ∀ k, FnOk P w K mg base CX0 (k + 6) fI fdI ["_law_tape_here", "_law_w"] spInl)
    (mr : mg "range" = none) (mi : mg "int" = none) (mt : mg "tuple" = none) : ∀ m, FnOk P w K mg base CX0 (m + 6) f fd ["_law_tape_here", "_law_w", "_law_deep"] (spMade m) := by
  intro m
  induction m with
  | zero => exact ⟨fun _ _ _ _ ⟨_, _, k, _, _, _, _, _, h1, h2, _⟩ => absurd h1 (by omega), fun _ _ _ _ _ _ _ _ _ _ _ _ _ ⟨_, _, k, _, _, _, _, _, h1, h2, _⟩ => absurd h1 (by omega)⟩
  | succ m ih =>
    have GD := GDs m
    have GW := GWs m
    have GI := GIs m
    refine F.ok scMade (fun vs H Q E h => ?_) (fun cdv A outer s H vs Q E hr h => ?_)
    · obtain ⟨t, w', k, N, C, kvs, fv, rfl, _⟩ := h
      rfl
    · obtain ⟨t, w', k, N, C, kvs, fv, rfl, hk1, hkm, hC, hO, hT, hN, q⟩ := h
      refine ⟨_, (_root_.C8.pss_cut (ps_set (i := 3) scMade.nd rfl (.inl rfl) (pe_and (pe_cmpR op_gt (pv 2) pe_int (nomark _)) (pe_one (pe_cmpR op_gt (pe_call GD hr (by rfl) gD FD.kp bD .nil pass0 (pa_cons (pv 0) (pa_cons pe_int pa_nil))) pe_int (nomark _)))))
        (_root_.C8.pss_cut (ps_set (i := 4) scMade.nd rfl (.inl rfl) (pe_ix ix_list (pe_ix ix_list (pe_lst (pa_cons (pe_dget (hu1 hr) (pv 1) pe_str (fun _ _ => rfl)) (pa_cons (pe_dget (hu1 hr) (pv 1) pe_str (fun _ _ => rfl)) pa_nil))) (pe_callTy call_int1 (by rfl) mi (by decide +kernel) (pa_cons (pv 3) pa_nil)) (fun _ _ => rfl)) (pe_call GD hr (by rfl) gD FD.kp bD .nil pass0 (pa_cons (pv 0) (pa_cons pe_int pa_nil))) (fun _ _ => rfl)))
        (_root_.C8.pss_cut (ps_if (pt_cmpR op_eq (pe_call GD hr (by rfl) gD FD.kp bD .nil pass0 (pa_cons (pv 0) (pa_cons pe_int pa_nil))) pe_int (nomark _)) (pss_one (ps_set (i := 4) scMade.nd rfl (.inl rfl) (pe_ix ix_list (pe_op op_cat (pe_dget (hu1 hr) (pv 1) pe_str (fun _ _ => rfl)) (pe_dget (hu1 hr) (pv 1) pe_str (fun _ _ => rfl))) (pe_call GD hr (by rfl) gD FD.kp bD .nil pass0 (pa_cons (pv 0) (pa_cons pe_int pa_nil))) (fun _ _ => rfl)))) pss_nil)
        (pss_cons (ps_set (i := 5) scMade.nd rfl (.inl rfl) (pe_tup pa_nil))
        (_root_.C8.pss_cut (ps_if (pt_cmpR op_eq (pe_call GD hr (by rfl) gD FD.kp bD .nil pass0 (pa_cons (pv 0) (pa_cons pe_int pa_nil))) pe_int (nomark _)) (pss_one (ps_set (i := 5) scMade.nd rfl (.inl rfl) (pe_tup (pa_cons (pe_ix ix_list (pe_dget (hu1 hr) (pv 1) pe_str (fun _ _ => rfl)) (pe_call GD hr (by rfl) gD FD.kp bD .nil pass0 (pa_cons (pv 0) (pa_cons pe_int pa_nil))) (fun _ _ => rfl)) (pa_cons (pe_ix ix_list (pe_dget (hu1 hr) (pv 1) pe_str (fun _ _ => rfl)) (pe_call GD hr (by rfl) gD FD.kp bD .nil pass0 (pa_cons (pv 0) (pa_cons pe_int pa_nil))) (fun _ _ => rfl)) pa_nil))))) pss_nil)
        (_root_.C8.pss_cut (ps_set (i := 6) scMade.nd rfl (.inl rfl) (pe_ifExp (pt_cmpR op_eq (pe_call GD hr (by rfl) gD FD.kp bD .nil pass0 (pa_cons (pv 0) (pa_cons pe_int pa_nil))) pe_int (nomark _)) (pe_call GW hr (by rfl) gW FW.kp bW .nil pass0 (pa_cons (pv 0) (pa_cons (pe_dget (hu1 hr) (pv 1) pe_str (fun _ _ => rfl)) (pa_cons pe_int pa_nil)))) (pe_tup (pa_cons pe_str pa_nil))))
        (_root_.C8.pss_cut (ps_set (i := 7) scMade.nd rfl (.inl rfl) (pe_ix ix_list (pe_lst (pa_cons pe_str (pa_cons pe_str (pa_cons (pe_ix ix_list (pe_dget (hu1 hr) (pv 1) pe_str (fun _ _ => rfl)) pe_int (fun _ _ => rfl)) (pa_cons (pe_ix ix_list (pe_dget (hu1 hr) (pv 1) pe_str (fun _ _ => rfl)) pe_int (fun _ _ => rfl)) pa_nil))))) (pe_call GD hr (by rfl) gD FD.kp bD .nil pass0 (pa_cons (pv 0) (pa_cons pe_int pa_nil))) (fun _ _ => rfl)))
        (pss_cons (ps_set (i := 8) scMade.nd rfl (.inl rfl) (pe_lst pa_nil))
        (pss_cons (ps_for PassesOwn.never rfl (pi_range1 rfl mr (pa_cons (pe_call GD hr (by rfl) gD FD.kp bD .nil pass0 (pa_cons (pv 0) (pa_cons pe_int pa_nil))) pa_nil)) (pg_name (i := 9) scMade.nd rfl (.inl rfl)) (pss_one (ps_expr (pe_bm PySem.F.plainAttrs_list PySem.F.slot_list_append PySem.F.type_list_append mt_append (pv 8) (pa_cons (pe_ifExp (pt_val (pv 3)) (pe_call ih hr (by rfl) g F.kp b .nil pass0 (pa_cons (pv 0) (pa_cons (pv 1) (pa_cons (pe_op op_sub (pv 2) pe_int) pa_nil)))) (pe_call GI hr (by rfl) gI FI.kp bI .nil pass0 (pa_cons (pv 0) (pa_cons (pv 1) pa_nil)))) pa_nil)))))
        (pss_one (ps_ret (pe_tup (pa_cons (pv 4) (pa_cons (pv 5) (pa_cons (pv 6) (pa_cons (pv 7) (pa_cons (pe_tupleOf (by rfl) mt (pv 8)) pa_nil))))))))))))))))), ?_⟩
      obtain ⟨k0, rfl⟩ : ∃ k0, k = k0 + 1 := ⟨k - 1, by omega⟩
      have hmb : mb (k0 + 1) = 4 * mb k0 + 400 := rfl
      have dget : ∀ {G : Hp} {key : Key} {v : V}, CastAt G t w' C kvs fv → valV kvs key = some v → DGet G w' (kV key) (some v) := fun {G} {key} {v} hG hv => by
        have := DGet.k (k := key) hG.dw
        rw [hv] at this
        exact this
      -- boxed
      refine ⟨fun σ G => ∃ bx : Bool, σ = [some (.ref t), some (.ref w'), some (.int ((k0 + 1 : Nat) : Int)), some (.bl bx), none, none, none, none, none, none] ∧ (bx = true → 1 ≤ k0) ∧ Ex t H G ∧ TapeAt G t (N + 1), ?_, ?_⟩
      · refine ⟨_, rfl, _, _, rfl, rfl, _, rfl, ?_⟩
        by_cases h : (1 : Int) < ((k0 + 1 : Nat) : Int)
        · rw [if_pos (decide_eq_true h)]
          exact ⟨.ref t, rfl, t, 4, N, rfl, by decide, by decide, hT, by omega, fun r H1 x1 T1 _ _ => ⟨_, _, rfl, rfl, _, rfl, fun _ => by omega, x1, T1⟩⟩
        · rw [if_neg (by simpa using h)]
          exact ⟨false, rfl, (fun z => by cases z), Ex.refl t H, hT.mono (by omega)⟩
      rintro σ1 G1 ⟨bx, rfl, hbx, x1, T1⟩
      have C1 := hC.ex hT x1
      -- the kind
      refine ⟨fun σ G => ∃ kd : Str, σ = [some (.ref t), some (.ref w'), some (.int ((k0 + 1 : Nat) : Int)), some (.bl bx), some (.str kd), none, none, none, none, none] ∧ Kd kd ∧ Ex t H G ∧ TapeAt G t (N + 2), ?_, ?_⟩
      · obtain ⟨aw, vw, naw, ew⟩ := C1.wordy
        obtain ⟨ab, vb, nab, eb⟩ := C1.boxes
        refine ⟨.ref w', rfl, w', .ref aw, rfl, dget C1 vw, .ref w', rfl, w', .ref ab, rfl, dget C1 vb, by show 2 ≤ sizeLine; decide, fun l nl => ?_⟩
        have sl := same_upd (o := .lst [.ref aw, .ref ab]) nl
        cases bx with
        | true =>
          refine ⟨_, rfl, .inr ⟨true, rfl, l, _, 1, .ref ab, rfl, rfl, SqL.of upd_same, rfl, .ref t, rfl, t, 3, N + 1, rfl, by decide, by decide, T1.same sl, by omega, fun r H2 x2 T2 h0 h1 => ?_⟩⟩
          obtain ⟨kd, hkd, hat⟩ := str_at' h0 (by rw [hO.lb]; exact h1)
          exact ⟨ab, _, r, .str kd, rfl, rfl, SqL.of (x2 _ _ nab (sl _ _ eb)), hat, kd, rfl, hO.kb _ hkd, (x1.trans (Same.ex sl)).trans x2, T2⟩
        | false =>
          refine ⟨_, rfl, .inr ⟨false, rfl, l, _, 0, .ref aw, rfl, rfl, SqL.of upd_same, rfl, .ref t, rfl, t, 3, N + 1, rfl, by decide, by decide, T1.same sl, by omega, fun r H2 x2 T2 h0 h1 => ?_⟩⟩
          obtain ⟨kd, hkd, hat⟩ := str_at' h0 (by rw [hO.lw]; exact h1)
          exact ⟨aw, _, r, .str kd, rfl, rfl, SqL.of (x2 _ _ naw (sl _ _ ew)), hat, kd, rfl, hO.kw _ hkd, (x1.trans (Same.ex sl)).trans x2, T2⟩
      clear x1 T1 C1
      rintro σ1 G1 ⟨kd0, rfl, hkd0, x1, T1⟩
      have C1 := hC.ex hT x1
      -- maybe another
      refine ⟨fun σ G => ∃ kd : Str, σ = [some (.ref t), some (.ref w'), some (.int ((k0 + 1 : Nat) : Int)), some (.bl bx), some (.str kd), none, none, none, none, none] ∧ Kd kd ∧ Ex t H G ∧ TapeAt G t (N + 4), ?_, ?_⟩
      · refine ⟨.ref t, rfl, t, 12, N + 2, rfl, by decide, by decide, T1, by omega, fun r H2 x2 T2 _ _ => ⟨rfl, _, rfl, ite2 (fun _ => ?_) (fun _ => ⟨kd0, rfl, hkd0, x1.trans x2, T2.mono (by omega)⟩)⟩⟩
        have C2 := C1.ex T1 x2
        obtain ⟨aw, vw, naw, ew⟩ := C2.wordy
        obtain ⟨ab, vb, nab, eb⟩ := C2.boxes
        refine ⟨.ref w', rfl, w', .ref aw, rfl, dget C2 vw, .ref w', rfl, w', .ref ab, rfl, dget C2 vb, aw, ab, _, _, rfl, rfl, ew, eb, sz _ (by rw [List.length_map, List.length_map, hO.lw, hO.lb]; decide), fun l nl => ?_⟩
        have sl := same_upd (o := .lst (C.wordy.map V.str ++ C.boxes.map V.str)) nl
        have nlt := T2.ne_none nl
        refine ⟨.ref t, rfl, t, 6, N + 3, rfl, by decide, by decide, T2.same sl, by omega, fun r2 H3 x3 T3 h0 h1 => ?_⟩
        obtain ⟨kd, hkd, hat⟩ := str_at' (ws := C.wordy ++ C.boxes) h0 (by rw [List.length_append, hO.lw, hO.lb]; exact h1)
        rw [List.map_append] at hat
        refine ⟨l, _, r2, .str kd, rfl, rfl, SqL.of (x3 _ _ nlt upd_same), hat, kd, rfl, ?_, (x1.trans x2).trans ((Same.ex sl).trans x3), T3⟩
        rcases List.mem_append.mp hkd with z | z
        · exact hO.kw _ z
        · exact hO.kb _ z
      clear x1 T1 C1 hkd0
      rintro σ1 G1 ⟨kd, rfl, hkd, x1, T1⟩
      -- the home
      refine ⟨Nat.zero_le _, fun hp nhp => ?_⟩
      have sh := same_upd (o := .tup []) nhp
      have T1 := T1.same sh
      have x1 := x1.trans (Same.ex sh)
      have rh : Rp (upd G1 hp (.tup [])) (.ref hp) (dHome none) := .tup upd_same .nil
      generalize upd G1 hp (.tup []) = G2 at *
      have C2 := hC.ex hT x1
      refine ⟨fun σ G => ∃ (hm : Option (Str × Str)) (hv : V), σ = [some (.ref t), some (.ref w'), some (.int ((k0 + 1 : Nat) : Int)), some (.bl bx), some (.str kd), some hv, none, none, none, none] ∧ Rp G hv (dHome hm) ∧ HOk hm ∧ Ex t H G ∧ TapeAt G t (N + 7), ?_, ?_⟩
      · refine ⟨.ref t, rfl, t, 2, N + 4, rfl, by decide, by decide, T1, by omega, fun r H2 x2 T2 _ _ => ⟨rfl, _, rfl, ite2 (fun _ => ?_) (fun _ => ⟨none, .ref hp, rfl, rh.keep (T1.keepT x2) rfl, (fun p z => by cases z), x1.trans x2, T2.mono (by omega)⟩)⟩⟩
        have C3 := C2.ex T1 x2
        obtain ⟨ap, vp, nap, ep⟩ := C3.parts
        refine ⟨.ref w', rfl, w', .ref ap, rfl, dget C3 vp, .ref t, rfl, t, 5, N + 5, rfl, by decide, by decide, T2, by omega, fun r2 H3 x3 T3 h0 h1 => ?_⟩
        obtain ⟨p, hpp, hpat⟩ := str_at' h0 (by rw [hO.lp]; exact h1)
        have C4 := C3.ex T2 x3
        obtain ⟨ao, vo, nao, eo⟩ := C4.own
        refine ⟨ap, _, r2, .str p, rfl, rfl, SqL.of (x3 _ _ nap ep), hpat, .ref w', rfl, w', .ref ao, rfl, dget C4 vo, .ref t, rfl, t, 8, N + 6, rfl, by decide, by decide, T3, by omega, fun r3 H4 x4 T4 h0' h1' => ?_⟩
        obtain ⟨o, hoo, hoat⟩ := str_at' h0' (by rw [hO.lo]; exact h1')
        refine ⟨ao, _, r3, .str o, rfl, rfl, SqL.of (x4 _ _ nao eo), hoat, by show 2 ≤ sizeLine; decide, fun tp ntp => ?_⟩
        have s5 := same_upd (o := .tup [.str p, .str o]) ntp
        refine ⟨some (p, o), .ref tp, rfl, .tup upd_same (.cons (.str _) (.cons (.str _) .nil)), fun z hz => ?_, ((x1.trans x2).trans (x3.trans x4)).trans (Same.ex s5), T4.same s5⟩
        cases hz
        exact ⟨(hO.wp _ hpp).tx, (hO.wo _ hoo).tx⟩
      clear x1 T1 C2 rh sh
      rintro σ1 G1 ⟨hm, hv, rfl, rh, hho, x1, T1⟩
      have C1 := hC.ex hT x1
      -- when
      refine ⟨fun σ G => ∃ (wn : Wn) (wv : V), σ = [some (.ref t), some (.ref w'), some (.int ((k0 + 1 : Nat) : Int)), some (.bl bx), some (.str kd), some hv, some wv, none, none, none] ∧ Rp G hv (dHome hm) ∧ Rp G wv (dN wn) ∧ WOk C.fs wn ∧ dep wn ≤ 3 ∧ Ex t H G ∧ TapeAt G t (N + 160), ?_, ?_⟩
      · refine ⟨.ref t, rfl, t, 2, N + 7, rfl, by decide, by decide, T1, by omega, fun r H2 x2 T2 _ _ => ⟨rfl, _, rfl, ite2 (fun _ => ?_) (fun _ => ?_)⟩⟩
        · have C2 := C1.ex T1 x2
          have hb3 : bud 3 = 150 := rfl
          refine ⟨.ref t, rfl, .ref w', rfl, w', fv, rfl, dget C2 C2.vf, t, fv, 3, N + 8, C.fs, rfl, by decide, by decide, C2.rf, hO.fok, hO.f1, by have := hO.f3; omega, T2, by omega, fun wv H3 wn x3 T3 hwv hok hdp => ?_⟩
          exact ⟨wn, wv, rfl, rh.keep (T1.keepT (x2.trans x3)) (imm_home hm), hwv, hok, hdp, (x1.trans x2).trans x3, T3.mono (by omega)⟩
        · refine ⟨by show 1 ≤ sizeLine; decide, fun tp ntp => ?_⟩
          have s3 := same_upd (o := .tup [.str (Str.ofString "always")]) ntp
          exact ⟨.always, .ref tp, rfl, (rh.keep (T1.keepT x2) (imm_home hm)).same s3, .tup upd_same (.cons (.str _) .nil), trivial, by decide, (x1.trans x2).trans (Same.ex s3), (T2.same s3).mono (by omega)⟩
      clear x1 T1 C1 rh
      rintro σ1 G1 ⟨wn, wv, rfl, rh, rw', hwo, hwd, x1, T1⟩
      have C1 := hC.ex hT x1
      -- the tie
      refine ⟨fun σ G => ∃ (tie : Str), σ = [some (.ref t), some (.ref w'), some (.int ((k0 + 1 : Nat) : Int)), some (.bl bx), some (.str kd), some hv, some wv, some (.str tie), none, none] ∧ Tx 16 tie ∧ Rp G hv (dHome hm) ∧ Rp G wv (dN wn) ∧ Ex t H G ∧ TapeAt G t (N + 161), ?_, ?_⟩
      · obtain ⟨at', vt, nat', et⟩ := C1.ties
        have hl2 := hO.lt
        have g0 : atI (C.ties.map V.str) 0 = some (.str (C.ties[0]'(by omega))) := by
          have : atI (C.ties.map V.str) ((0 : Nat) : Int) = _ := atI_nat (by rw [List.getElem?_map, List.getElem?_eq_getElem (by omega)]; rfl)
          exact this
        have g1 : atI (C.ties.map V.str) 1 = some (.str (C.ties[1]'(by omega))) := by
          have : atI (C.ties.map V.str) ((1 : Nat) : Int) = _ := atI_nat (by rw [List.getElem?_map, List.getElem?_eq_getElem (by omega)]; rfl)
          exact this
        refine ⟨.ref w', rfl, w', .ref at', rfl, dget C1 vt, at', _, 0, _, rfl, rfl, SqL.of et, g0, .ref w', rfl, w', .ref at', rfl, dget C1 vt, at', _, 1, _, rfl, rfl, SqL.of et, g1, by show 4 ≤ sizeLine; decide, fun l nl => ?_⟩
        have sl := same_upd (o := .lst [.str (Str.ofString ""), .str (Str.ofString ""), .str (C.ties[0]'(by omega)), .str (C.ties[1]'(by omega))]) nl
        have nlt := T1.ne_none nl
        refine ⟨.ref t, rfl, t, 4, N + 160, rfl, by decide, by decide, T1.same sl, by omega, fun r H2 x2 T2 h0 h1 => ?_⟩
        obtain ⟨tie, htie, hat⟩ := str_at' (ws := [Str.ofString "", Str.ofString "", C.ties[0]'(by omega), C.ties[1]'(by omega)]) h0 h1
        have x12 := (Same.ex sl).trans x2
        refine ⟨l, _, r, .str tie, rfl, rfl, SqL.of (x2 _ _ nlt upd_same), hat, tie, rfl, ?_, rh.keep (T1.keepT x12) (imm_home hm), rw'.keep (T1.keepT x12) (imm_dN wn), x1.trans x12, T2⟩
        simp only [List.mem_cons, List.not_mem_nil, or_false] at htie
        rcases htie with rfl | rfl | rfl | rfl
        · exact ⟨by decide, by decide +kernel⟩
        · exact ⟨by decide, by decide +kernel⟩
        · exact (hO.wt _ (List.getElem_mem _)).tx
        · exact (hO.wt _ (List.getElem_mem _)).tx
      clear x1 T1 C1 rh rw'
      rintro σ1 G1 ⟨tie, rfl, htl, rh, rw', x1, T1⟩
      -- things
      refine ⟨Nat.zero_le _, fun tl ntl => ?_⟩
      have ntlt := T1.ne_none ntl
      have st := same_upd (o := .lst []) ntl
      have etl : upd G1 tl (.lst []) tl = some (.lst []) := upd_same
      have T1 := T1.same st
      have rh := rh.same st
      have rw' := rw'.same st
      have ntH : H tl = none := x1.free ntlt ntl
      have x1 := x1.trans (Same.ex st)
      generalize upd G1 tl (.lst []) = G2 at *
      have C2 := hC.ex hT x1
      refine ⟨.ref t, rfl, t, 5, N + 161, rfl, by decide, by decide, T1, by omega, fun r H2 x2 T2 hr0 hr1 => ⟨r, rfl, by omega, by omega, ?_⟩⟩
      obtain ⟨r', rfl⟩ : ∃ r' : Nat, r = r' := ⟨r.toNat, by omega⟩
      obtain ⟨B, hB⟩ : ∃ B, B = max (mb k0) 30 := ⟨_, rfl⟩
      refine for_it (walk_range (lo := 0)) (fun i σ G => ∃ (y9 : Option V) (us : List V) (ths : List Th), σ = [some (.ref t), some (.ref w'), some (.int ((k0 + 1 : Nat) : Int)), some (.bl bx), some (.str kd), some hv, some wv, some (.str tie), some (.ref tl), y9] ∧ Ex t H G ∧ TapeAt G t (N + 162 + B * i) ∧ Rp G hv (dHome hm) ∧ Rp G wv (dN wn) ∧ G tl = some (.lst us) ∧ RpAll G us (ths.map dTh) ∧ ths.length = i ∧ ∀ x ∈ ths, TOk C.fs k0 x)
        ⟨none, [], [], rfl, x1.trans x2, T2, rh.keep (T1.keepT x2) (imm_home hm), rw'.keep (T1.keepT x2) (imm_dN wn), x2 _ _ ntlt etl, .nil, rfl, fun x hx => by cases hx⟩ (fun _ _ _ _ _ => trivial) ?_ ?_
      · rintro i v σ G0 G hi ⟨y9, us, ths, rfl, xG, TG, rhG, rwG, eG, rG, lG, okG⟩ ⟨rfl, rfl⟩
        have hi4 : i < 4 := by omega
        have hBi : B * i ≤ B * 3 := Nat.mul_le_mul_left _ (by omega)
        have hul := rG.length
        rw [List.length_map] at hul
        have CG := hC.ex hT xG
        -- what follows
        have fin : ∀ (x : V) (G3 : Hp) (e : Th), Ex t G G3 → TapeAt G3 t (N + 162 + B * i + B) → Rp G3 x (dTh e) → TOk C.fs k0 e → (G3 tl = some (.lst us) ∧ us.length < sizeLine ∧ ∃ (y9 : Option V) (us' : List V) (ths : List Th), [some (V.ref t), some (.ref w'), some (.int ((k0 + 1 : Nat) : Int)), some (.bl bx), some (.str kd), some hv, some wv, some (.str tie), some (.ref tl), some (.int (0 + (i : Nat)))] = [some (.ref t), some (.ref w'), some (.int ((k0 + 1 : Nat) : Int)), some (.bl bx), some (.str kd), some hv, some wv, some (.str tie), some (.ref tl), y9] ∧ Ex t H (upd G3 tl (.lst (us ++ [x]))) ∧ TapeAt (upd G3 tl (.lst (us ++ [x]))) t (N + 162 + B * (i + 1)) ∧ Rp (upd G3 tl (.lst (us ++ [x]))) hv (dHome hm) ∧ Rp (upd G3 tl (.lst (us ++ [x]))) wv (dN wn) ∧ upd G3 tl (.lst (us ++ [x])) tl = some (.lst us') ∧ RpAll (upd G3 tl (.lst (us ++ [x]))) us' (ths.map dTh) ∧ ths.length = i + 1 ∧ ∀ x ∈ ths, TOk C.fs k0 x) := by
          intro x G3 e x3 T3 rx ok
          have e3 := x3 _ _ ntlt eG
          have kT : KeepT G3 (upd G3 tl (.lst (us ++ [x]))) := keepT_lst e3
          refine ⟨e3, small1000 (by omega), _, us ++ [x], ths ++ [e], rfl, (xG.trans x3).upd_free ntH, (T3.upd ntlt).mono (by rw [Nat.mul_succ]; omega), (rhG.keep (TG.keepT x3) (imm_home hm)).keep kT (imm_home hm), (rwG.keep (TG.keepT x3) (imm_dN wn)).keep kT (imm_dN wn), upd_same, ?_, by rw [List.length_append, lG]; rfl, fun y hy => ?_⟩
          · rw [List.map_append]
            exact ((rG.keep (TG.keepT x3) (immAll_map imm_dTh ths)).keep kT (immAll_map imm_dTh ths)).append (.cons (rx.keep kT (imm_dTh e)) .nil)
          · rcases List.mem_append.mp hy with z | z
            · exact okG y z
            · rw [List.mem_singleton.mp z]
              exact ok
        refine ⟨.ref tl, rfl, .inl ⟨rfl, _, SqL.of eG⟩, .bl bx, rfl, bx, rfl, ?_⟩
        dsimp only
        cases hbb : bx with
        | true =>
          have hk0 := hbx hbb
          rw [hbb] at fin
          refine ⟨.ref t, rfl, .ref w', rfl, .int ((k0 + 1 : Nat) : Int), rfl, _, 1, rfl, rfl, t, w', k0, N + 162 + B * i, C, kvs, fv, ?_, hk0, by omega, CG, hO, TG, by omega, fun x G3 e x3 T3 rx ok _ => ?_⟩
          · show [V.ref t, .ref w', .int (((k0 + 1 : Nat) : Int) - 1)] ++ [] = _
            rw [show (((k0 + 1 : Nat) : Int) - 1) = (k0 : Nat) by omega]
            rfl
          · obtain ⟨h1, h2, h3⟩ := fin x G3 e x3 (T3.mono (by omega)) rx ok
            exact ⟨tl, us, x, rfl, rfl, h1, h2, h3⟩
        | false =>
          rw [hbb] at fin
          refine ⟨.ref t, rfl, .ref w', rfl, t, w', N + 162 + B * i, C, kvs, fv, rfl, TG, by omega, CG, hO, fun x G3 ws x3 T3 rx ok => ?_⟩
          obtain ⟨h1, h2, h3⟩ := fin x G3 (.inl ws) x3 (T3.mono (by omega)) (by rw [dTh_inl]; exact rx) (by cases k0 <;> exact ok)
          exact ⟨tl, us, x, rfl, rfl, h1, h2, h3⟩
      · rintro σ G ⟨y9, us, ths, rfl, xG, TG, rhG, rwG, eG, rG, lG, okG⟩
        have hl4 : ths.length ≤ 4 := by
          rw [lG]
          show ((r' : Nat) : Int).toNat ≤ 4
          omega
        refine ⟨_, rfl, _, rfl, _, rfl, _, rfl, .ref tl, rfl, .inl ⟨tl, us, rfl, SqL.of eG, fun tt ntt => ⟨by show 5 ≤ sizeLine; decide, fun ep nep => ?_⟩⟩⟩
        have s1 := same_upd (o := .tup us) ntt
        have s2 := same_upd (o := .tup [.str kd, hv, wv, .str tie, .ref tt]) nep
        have s12 := Same.trans s1 s2
        refine q (.ref ep) _ (.el kd hm wn tie ths) (xG.trans (Same.ex s12)) ((TG.same s12).mono ?_) ?_ ⟨hkd.2, hkd.1.tx, hho, hwo, hwd, htl, hl4, okG⟩ trivial
        · have : B * ((r' : Nat) : Int).toNat ≤ B * 4 := Nat.mul_le_mul_left _ (by omega)
          omega
        · rw [dTh_el]
          exact .tup upd_same (.cons (.str _) (.cons (rhG.same s12) (.cons (rwG.same s12) (.cons (.str _) (.cons (.tup (s2 _ _ upd_same) (rG.same s12)) .nil)))))

end
end Sg

namespace Sg
open PySem PySem.Spec PyProof.Rows L2
theorem smallM {n : Nat} (h : n ≤ 100000) : n < sizeLine := Nat.lt_of_le_of_lt h (by decide)
theorem same_add {H H1 : Hp} {D : Addr} {o : HO} (nD : H D = none) (s : Same H H1) : Same H (upd H1 D o) := fun b o' e => by
  rw [upd_ne (fun z => by subst z; rw [nD] at e; cases e)]
  exact s _ _ e
theorem RpAll.add1 {α : Type} {f : α → PyData} (himm : ∀ x, imm (f x) = true) {H : Hp} {D : Addr} {us : List V} {xs : List α} {r : V} {x : α} (d : H D = some (.lst us)) (h : RpAll H us (xs.map f)) (hr : Rp H r (f x)) : RpAll (upd H D (.lst (us ++ [r]))) (us ++ [r]) ((xs ++ [x]).map f) := by
  rw [List.map_append]
  have kT : KeepT H (upd H D (.lst (us ++ [r]))) := keepT_lst d
  exact (h.keep kT (immAll_map himm xs)).append (.cons (hr.keep kT (himm x)) .nil)
/-- [e for x in .. if t], whatever is walked; answers without lists in them -/
theorem gen_lc {J : It} {n : Nat} {G : Hp → Prop} {Y : Nat → Hp → V → Hp → Prop} (w : Walk J n G Y) (p : Nat → Bool) (val : Nat → PyData) (himm : ∀ i, imm (val i) = true) {g : TG} {tt : TT} {te : TE} {vs : List Nat} {σ : L2.St} {H1 : Hp} {D : Addr} {Qd : Hp → Prop} (nD : H1 D = none) (hn : n ≤ 100000) (hG : ∀ H, Same H1 H → G H)
    (hs : ∀ (i : Nat) (x : V) (H H' : Hp) (Qy : VK) (Qn : Hp → Prop), i < n → Same H1 H → Y i H x H' → (p i = true → ∀ r H4, Same H H4 → Rp H4 r (val i) → Qy r H4) → (p i = false → ∀ H4, Same H H4 → Qn H4) →
      g x (wipe σ vs) H' fun σ2 H2 => wipe σ2 vs = wipe σ vs ∧ tt σ2 H2 fun b H3 => if b = true then te σ2 H3 Qy else Qn H3)
    (hd : ∀ H' ts, Same H1 H' → H' D = some (.lst ts) → RpAll H' ts (((List.range n).filter p).map val) → Qd H') :
    ∃ W : Nat → Nat → Hp → Prop, (∃ m, W 0 m (upd H1 D (.lst []))) ∧ ∀ i m H, W i m H →
      (J.stop i H ∧ Qd H) ∨ (J.go i H ∧ ∃ Nx : Hp → Prop, (∀ H', Nx H' → ∃ m', m' < m ∧ W (i + 1) m' H') ∧ ∀ x H', J.yld i H x H' → g x (wipe σ vs) H' fun σ2 H2 => wipe σ2 vs = wipe σ vs ∧ tt σ2 H2 fun b H3 =>
        if b = true then te σ2 H3 fun y H4 => ∃ acc, H4 D = some (.lst acc) ∧ acc.length < sizeLine ∧ Nx (upd H4 D (.lst (acc ++ [y]))) else Nx H3) := by
  refine lc_it w (fun i H3 => ∃ ts, Same H1 H3 ∧ H3 D = some (.lst ts) ∧ RpAll H3 ts (((List.range i).filter p).map val)) ⟨[], same_upd nD, upd_same, .nil⟩ (fun i H3 _ h3 => let ⟨_, s3, _⟩ := h3; hG _ s3) ?_ ?_
  · rintro i x H3 H4 hi ⟨ts, s3, d3, r3⟩ y
    have hl := r3.length
    rw [List.length_map] at hl
    have hfl := List.length_filter_le p (List.range i)
    rw [List.length_range] at hfl
    refine hs i x H3 H4 _ _ hi s3 y (fun hp r H5 s5 h5 => ?_) (fun hp H5 s5 => ?_)
    · have d5 := s5 _ _ d3
      refine ⟨ts, d5, smallM (by omega), ts ++ [r], same_add nD (Same.trans s3 s5), upd_same, ?_⟩
      rw [List.range_succ, List.filter_append, List.filter_cons_of_pos hp, List.filter_nil]
      exact RpAll.add1 himm d5 (r3.same s5) h5
    · refine ⟨ts, Same.trans s3 s5, s5 _ _ d3, ?_⟩
      rw [List.range_succ, List.filter_append, List.filter_cons_of_neg (by rw [hp]; exact Bool.false_ne_true), List.filter_nil, List.append_nil]
      exact r3.same s5
  · rintro H3 ⟨ts, s3, d3, r3⟩
    exact hd _ _ s3 d3 r3
theorem range_map {α β : Type} (f : α → β) (z : α) (xs : List α) : (List.range xs.length).map (fun i => f (xs.getD i z)) = xs.map f := by
  apply List.ext_getElem
  · simp
  · intro i h1 h2
    have h3 : i < xs.length := by simpa using h2
    simp [h3]
theorem range_pick {α β : Type} (f : α → β) (p : α → Bool) (z : α) (xs : List α) : ((List.range xs.length).filter fun i => p (xs.getD i z)).map (fun i => f (xs.getD i z)) = (xs.filter p).map f := by
  have e : (List.range xs.length).map (fun i => id (xs.getD i z)) = xs := (range_map id z xs).trans (List.map_id xs)
  have e2 : xs.filter p = ((List.range xs.length).filter fun i => p (xs.getD i z)).map (fun i => id (xs.getD i z)) := by
    have := congrArg (List.filter p) e
    rw [List.filter_map] at this
    exact this.symm
  rw [e2, List.map_map]
  rfl
theorem getD_lt {α : Type} {xs : List α} {i : Nat} (z : α) (h : i < xs.length) : xs.getD i z = xs[i] := by
  simp [h]

theorem slA_use {K : PySem.W.Frag} {H : Hp} {a : Addr} {xs : List V} {lo hi : Option Int} {Q : VK} (ha : H a = some (.tup xs)) (h : ∀ r H', Same H H' → H' r = some (.tup (cutV xs lo hi)) → Q (.ref r) H') : rSlA K (.ref a) lo hi H Q := by
  refine ⟨a, xs, rfl, SqT.of ha, fun hw => h a H (Same.refl H) ?_, fun _ p np => h p _ (same_upd np) upd_same⟩
  unfold cutV
  rw [hw.1, hw.2, List.drop_zero, Nat.sub_zero, List.take_length]
  exact ha
theorem catA_use {K : PySem.W.Frag} {H : Hp} {a b : Addr} {xs ys : List V} {Q : VK} (ha : H a = some (.tup xs)) (hb : H b = some (.tup ys)) (hz : xs.length + ys.length ≤ 1000) (h : ∀ r H', Same H H' → H' r = some (.tup (xs ++ ys)) → Q (.ref r) H') : rCatA K (.ref a) (.ref b) H Q := by
  refine ⟨a, b, xs, ys, rfl, rfl, SqT.of ha, SqT.of hb, sz _ hz, fun e => h b H (Same.refl H) ?_, fun _ e => h a H (Same.refl H) ?_, fun _ _ p np => h p _ (same_upd np) upd_same⟩
  · rw [e, List.nil_append]
    exact hb
  · rw [e, List.append_nil]
    exact ha
theorem at0 {x : V} {xs : List V} : atI (x :: xs) 0 = some x := atI_nat (j := 0) rfl
/-! ### what is left -/
def leftN (fs : List (Str × List Str)) (s : List Str) : Nat → Th → Option Th
  | _, .inl ws => some (.inl ws)
  | 0, .el _ _ _ _ _ => none
  | n + 1, .el k hm w tie ths => if holdsM fs s w = true then some (.el k hm w tie (ths.filterMap (leftN fs s n))) else none
def dTo : Option Th → PyData
  | none => .none
  | some t => dTh t
theorem imm_dTo : ∀ o, imm (dTo o) = true
  | none => rfl
  | some t => imm_dTh t
theorem leftN_ok {fs : List (Str × List Str)} {s : List Str} : ∀ {n : Nat} {t u : Th}, TOk fs n t → leftN fs s n t = some u → TOk fs n u ∧ (IsEl t → IsEl u)
  | 0, .inl ws, u, h, e => by
    cases e
    exact ⟨h, id⟩
  | 0, .el _ _ _ _ _, u, h, e => h.elim
  | n + 1, .inl ws, u, h, e => by
    cases e
    exact ⟨h, id⟩
  | n + 1, .el k hm w tie ths, u, h, e => by
    unfold leftN at e
    split at e
    · cases e
      obtain ⟨h1, h2, h3, h4, h5, h6, h7, h8⟩ := h
      refine ⟨⟨h1, h2, h3, h4, h5, h6, Nat.le_trans (List.length_filterMap_le _ _) h7, fun t ht => ?_⟩, id⟩
      obtain ⟨x, hx, ex⟩ := List.mem_filterMap.mp ht
      exact (leftN_ok (h8 x hx) ex).1
    · cases e
theorem fm_idem {α : Type} {f : α → Option α} (h : ∀ x y, f x = some y → f y = some y) : ∀ xs : List α, (xs.filterMap f).filterMap f = xs.filterMap f
  | [] => rfl
  | x :: xs => by
    cases e : f x with
    | none => rw [List.filterMap_cons_none e, fm_idem h xs]
    | some y => rw [List.filterMap_cons_some e, List.filterMap_cons_some (h x y e), fm_idem h xs]
theorem leftN_idem {fs : List (Str × List Str)} {s : List Str} : ∀ {n : Nat} {t u : Th}, leftN fs s n t = some u → leftN fs s n u = some u
  | 0, .inl ws, u, e => by
    cases e
    rfl
  | 0, .el _ _ _ _ _, u, e => by cases e
  | n + 1, .inl ws, u, e => by
    cases e
    rfl
  | n + 1, .el k hm w tie ths, u, e => by
    unfold leftN at e
    split at e
    · rename_i hh
      cases e
      show (if holdsM fs s w = true then some (Th.el k hm w tie ((ths.filterMap (leftN fs s n)).filterMap (leftN fs s n))) else none) = _
      rw [if_pos hh, fm_idem fun x y e => leftN_idem e]
    · cases e
theorem some_map {f : Th → Option Th} : ∀ ths : List Th, (ths.filter fun t => (f t).isSome).map (fun t => dTo (f t)) = (ths.filterMap f).map dTh
  | [] => rfl
  | t :: ts => by
    cases e : f t with
    | none => rw [List.filterMap_cons_none e, List.filter_cons_of_neg (by rw [e]; exact Bool.false_ne_true), some_map ts]
    | some u => rw [List.filterMap_cons_some e, List.filter_cons_of_pos (by rw [e]; rfl), List.map_cons, List.map_cons, some_map ts, e]; rfl
theorem RpAll.five {H : Hp} {vs : List V} {d1 d2 d3 d4 d5 : PyData} (h : RpAll H vs [d1, d2, d3, d4, d5]) : ∃ v1 v2 v3 v4 v5, vs = [v1, v2, v3, v4, v5] ∧ Rp H v1 d1 ∧ Rp H v2 d2 ∧ Rp H v3 d3 ∧ Rp H v4 d4 ∧ Rp H v5 d5 := by
  cases h with
  | cons h1 h =>
    cases h with
    | cons h2 h =>
      obtain ⟨a, b, c, e, h3, h4, h5⟩ := h.three
      exact ⟨_, _, _, _, _, by rw [e], h1, h2, h3, h4, h5⟩
/-- a thing's first word -/
theorem Th.head {H : Hp} {fs : List (Str × List Str)} {n : Nat} {v : V} {th : Th} (hr : Rp H v (dTh th)) (ok : TOk fs n th) : ∃ (a : Addr) (u : Str) (xs : List V), v = .ref a ∧ H a = some (.tup (.str u :: xs)) ∧ ((u ∈ four ∧ ¬ IsEl th) ∨ (u ∉ four ∧ IsEl th)) := by
  cases th with
  | inl ws =>
    rw [dTh_inl] at hr
    have ok : IOk ws := by cases n <;> exact ok
    obtain ⟨u, us, rfl, h4, _⟩ := ok
    obtain ⟨a, rfl, ha⟩ := hr.dW_inv
    exact ⟨a, u, us.map V.str, rfl, ha, .inl ⟨h4, id⟩⟩
  | el k hm w tie ths =>
    rw [dTh_el] at hr
    cases n with
    | zero => exact ok.elim
    | succ n =>
      obtain ⟨a, xs, rfl, ha, hx⟩ := hr.tup_inv
      obtain ⟨v1, v2, v3, v4, v5, rfl, h1, _⟩ := hx.five
      cases h1
      exact ⟨a, k, _, rfl, ha, .inr ⟨ok.1, trivial⟩⟩
abbrev sLeft : Stmt := topS 5
abbrev nLeft : List Str := ["facets", "element", "setting", "kind", "home", "when", "tie", "things", "inner", "thing"]
theorem scLeft : FnScope nLeft ["facets", "element", "setting"] (defScope sLeft) := ⟨rfl, rfl, rfl, by decide +kernel, rfl, by decide +kernel, by decide +kernel⟩
abbrev sIsEl : Stmt := topS 20
abbrev nIsEl : List Str := ["_law_thing"]
theorem scIsEl : FnScope nIsEl ["_law_thing"] (defScope sIsEl) := ⟨rfl, rfl, rfl, by decide +kernel, rfl, by decide +kernel, by decide +kernel⟩
abbrev sLLeft : Stmt := topS 22
abbrev nLLeft : List Str := ["_law_a_facets", "_law_a_element", "_law_a_setting", "_law_some", "_law_thing"]
theorem scLLeft : FnScope nLLeft ["_law_a_facets", "_law_a_element", "_law_a_setting"] (defScope sLLeft) := ⟨rfl, rfl, rfl, by decide +kernel, rfl, by decide +kernel, by decide +kernel⟩
section
variable {P : Program} {w : World} {K : PySem.W.Frag} {mg : Str → Option Value} {base : Heap}
def spIsEl : Sp := fun vs H Q _ => ∃ (v : V) (fs : List (Str × List Str)) (n : Nat) (th : Th), vs = [v] ∧ Rp H v (dTh th) ∧ TOk fs n th ∧ ∀ (b : Bool) (H' : Hp), Same H H' → ((b = true ∧ IsEl th) ∨ (b = false ∧ ¬ IsEl th)) → Q (.bl b) H'
theorem ok_isel {f : Addr} {fd : FuncData} {k : Nat} (F : Fun K "_law_is_element" "_law_is_element" sIsEl f fd) : FnOk P w K mg base CX0 (k + 1) f fd ["_law_thing"] spIsEl := by
  refine F.ok scIsEl (fun vs H Q E h => ?_) (fun cdv A outer s H vs Q E hr h => ?_)
  · obtain ⟨v, fs, n, th, rfl, _⟩ := h
    rfl
  · obtain ⟨v, fs, n, th, rfl, hv, ok, q⟩ := h
    refine ⟨_, pss_one (ps_ret (pe_cmpR op_notIn_seq (pe_ix ix_tup (pv 0) pe_int (fun _ _ => rfl)) (pe_tup (pa_cons pe_str (pa_cons pe_str (pa_cons pe_str (pa_cons pe_str pa_nil))))) rfl)), ?_⟩
    obtain ⟨a, u, xs, rfl, ha, hh⟩ := Th.head hv ok
    refine ⟨.ref a, rfl, a, _, 0, .str u, rfl, rfl, SqT.of ha, at0, by show 4 ≤ sizeLine; decide, fun p np => ?_⟩
    refine ⟨p, four.map V.str, rfl, .inr (SqT.of upd_same), rfl, all_flat four, ?_⟩
    have hin : inV (V.str u) (four.map V.str) = isIn four u := rfl
    rw [if_pos rfl, hin]
    refine q _ _ (same_upd np) ?_
    rcases hh with ⟨h4, hE⟩ | ⟨h4, hE⟩
    · exact .inr ⟨by rw [(isIn_iff four u).mpr h4]; rfl, hE⟩
    · refine .inl ⟨?_, hE⟩
      cases hb : isIn four u with
      | false => rfl
      | true => exact absurd ((isIn_iff four u).mp hb) h4
def spLeft (n : Nat) : Sp := fun vs H Q _ => ∃ (fv ev sv : V) (fs : List (Str × List Str)) (e : Th) (s : List Str), vs = [fv, ev, sv] ∧ Rp H fv (dF fs) ∧ Rp H ev (dTh e) ∧ Rp H sv (dW s) ∧ TOk fs n e ∧ IsEl e ∧ s.length = fs.length ∧ fs.length ≤ 1000 ∧ ∀ (v : V) (H' : Hp), Same H H' → Rp H' v (dTo (leftN fs s n e)) → Q v H'
/-- [.. for thing in things], each what is left of it -/
theorem inner_lc {n : Nat} {fs : List (Str × List Str)} {s : List Str} {a : Addr} {us : List V} {ths : List Th} {σ : L2.St} {vs : List Nat} {slot : Nat} {te : TE} {H1 : Hp} {D : Addr} {Qd : Hp → Prop} (nD : H1 D = none) (ha : H1 a = some (.tup us)) (hr : RpAll H1 us (ths.map dTh)) (hlen : ths.length ≤ 4)
    (hw : ∀ x : V, wipe ((wipe σ vs).set slot (some x)) vs = wipe σ vs)
    (hcall : ∀ (i : Nat) (h : i < ths.length) (x : V) (H2 : Hp) (Q : VK), Same H1 H2 → Rp H2 x (dTh ths[i]) → (∀ r H3, Same H2 H3 → Rp H3 r (dTo (leftN fs s n ths[i])) → Q r H3) → te ((wipe σ vs).set slot (some x)) H2 Q)
    (hd : ∀ H' ts, Same H1 H' → H' D = some (.lst ts) → RpAll H' ts (ths.map fun t => dTo (leftN fs s n t)) → Qd H') :
    ∃ W : Nat → Nat → Hp → Prop, (∃ m, W 0 m (upd H1 D (.lst []))) ∧ ∀ i m H, W i m H →
      ((Itt K a).stop i H ∧ Qd H) ∨ ((Itt K a).go i H ∧ ∃ Nx : Hp → Prop, (∀ H', Nx H' → ∃ m', m' < m ∧ W (i + 1) m' H') ∧ ∀ x H', (Itt K a).yld i H x H' → gName slot x (wipe σ vs) H' fun σ2 H2 => wipe σ2 vs = wipe σ vs ∧ tYes σ2 H2 fun b H3 =>
        if b = true then te σ2 H3 fun y H4 => ∃ acc, H4 D = some (.lst acc) ∧ acc.length < sizeLine ∧ Nx (upd H4 D (.lst (acc ++ [y]))) else Nx H3) := by
  have hl := hr.length
  rw [List.length_map] at hl
  refine gen_lc (walk_tup (xs := us)) (fun _ => true) (fun i => dTo (leftN fs s n (ths.getD i (.inl [])))) (fun _ => imm_dTo _) nD (by omega) (fun H3 s3 => SqT.of (s3 _ _ ha)) (fun i x H3 H4 Qy Qn hi s3 y hy hn => ?_) (fun H3 ts s3 d3 r3 => ?_)
  · obtain ⟨rfl, fx⟩ := y
    obtain ⟨d, hdd, hxo⟩ := hr.get fx
    have hic : i < ths.length := by omega
    rw [List.getElem?_map, List.getElem?_eq_getElem hic] at hdd
    cases hdd
    simp only [getD_lt (Th.inl []) hic] at hy
    exact ⟨hw x, hcall i hic x _ Qy s3 (hxo.same s3) fun r H5 s5 h5 => hy trivial r H5 s5 h5⟩
  · rw [hl, range_pick (fun t => dTo (leftN fs s n t)) (fun _ => true) (.inl []), List.filter_eq_self.mpr (fun _ _ => rfl)] at r3
    exact hd _ _ s3 d3 r3
/-- [thing for thing in inner if thing is not None] -/
theorem some_lc {a : Addr} {us : List V} {f : Th → Option Th} {ths : List Th} {σ : L2.St} {vs : List Nat} {slot : Nat} {H1 : Hp} {D : Addr} {Qd : Hp → Prop} (nD : H1 D = none) (ha : H1 a = some (.lst us)) (hr : RpAll H1 us (ths.map fun t => dTo (f t))) (hlen : ths.length ≤ 4)
    (hw : ∀ x : V, wipe ((wipe σ vs).set slot (some x)) vs = wipe σ vs) (hv : ∀ x : V, ((wipe σ vs).set slot (some x))[slot]? = some (some x))
    (hd : ∀ H' ts, Same H1 H' → H' D = some (.lst ts) → RpAll H' ts ((ths.filterMap f).map dTh) → Qd H') :
    ∃ W : Nat → Nat → Hp → Prop, (∃ m, W 0 m (upd H1 D (.lst []))) ∧ ∀ i m H, W i m H →
      ((Itl K a).stop i H ∧ Qd H) ∨ ((Itl K a).go i H ∧ ∃ Nx : Hp → Prop, (∀ H', Nx H' → ∃ m', m' < m ∧ W (i + 1) m' H') ∧ ∀ x H', (Itl K a).yld i H x H' → gName slot x (wipe σ vs) H' fun σ2 H2 => wipe σ2 vs = wipe σ vs ∧ tTest (tOp (fun x y H Q => y = .non ∧ Q (.bl (!decide (x = .non))) H) (tVar slot) (tC .non)) σ2 H2 fun b H3 =>
        if b = true then tVar slot σ2 H3 fun y H4 => ∃ acc, H4 D = some (.lst acc) ∧ acc.length < sizeLine ∧ Nx (upd H4 D (.lst (acc ++ [y]))) else Nx H3) := by
  have hl := hr.length
  rw [List.length_map] at hl
  refine gen_lc (walk_list (xs := us)) (fun i => (f (ths.getD i (.inl []))).isSome) (fun i => dTo (f (ths.getD i (.inl [])))) (fun _ => imm_dTo _) nD (by omega) (fun H3 s3 => SqL.of (s3 _ _ ha)) (fun i x H3 H4 Qy Qn hi s3 y hy hn => ?_) (fun H3 ts s3 d3 r3 => ?_)
  · obtain ⟨rfl, fx⟩ := y
    obtain ⟨d, hdd, hxo⟩ := hr.get fx
    have hic : i < ths.length := by omega
    rw [List.getElem?_map, List.getElem?_eq_getElem hic] at hdd
    cases hdd
    have hxo : Rp H4 x (dTo (f ths[i])) := hxo.same s3
    simp only [getD_lt (Th.inl []) hic] at hy hn
    refine ⟨hw x, x, hv x, rfl, _, rfl, ?_⟩
    dsimp only
    generalize f ths[i] = o at *
    cases o with
    | none =>
      cases hxo
      exact hn rfl _ (Same.refl _)
    | some u =>
      have hx2 : Rp H4 x (dTh u) := hxo
      obtain ⟨g, gs, rfl, hg⟩ : ∃ g gs, x = .ref g ∧ H4 g = some (.tup gs) := by
        cases u with
        | inl ws =>
          rw [dTh_inl] at hx2
          obtain ⟨g, e, hg⟩ := hx2.dW_inv
          exact ⟨g, _, e, hg⟩
        | el k hm w tie ths =>
          rw [dTh_el] at hx2
          obtain ⟨g, gs, e, hg, _⟩ := hx2.tup_inv
          exact ⟨g, gs, e, hg⟩
      exact ⟨_, hv _, hy rfl _ _ (Same.refl _) hxo⟩
  · rw [hl, range_pick (fun t => dTo (f t)) (fun t => (f t).isSome) (.inl []), some_map] at r3
    exact hd _ _ s3 d3 r3
theorem ok_left {f fH : Addr} {fd fdH : FuncData} {aW : Addr} (F : Fun K "left_in" "left_in" sLeft f fd) (b : Binds K fd ["facets", "element", "setting"] []) (g : mg "left_in" = some (.ref f))
    (FH : Fun K "holds" "holds" sHolds fH fdH) (bH : Binds K fdH ["facets", "when", "setting"] []) (gH : mg "holds" = some (.ref fH)) (GHs : ∀ k, FnOk P w K mg base CX0 (k + 5) fH fdH ["facets", "when", "setting"] (spHolds 3))
    (mW : mg "WORDS" = some (.ref aW)) (hW : ∀ H, SqT K H aW (four.map V.str)) (mt : mg "tuple" = none) : ∀ n, FnOk P w K mg base CX0 (n + 5) f fd ["facets", "element", "setting"] (spLeft n) := by
  intro n
  induction n with
  | zero => exact ⟨fun _ _ _ _ ⟨_, _, _, _, e, _, _, _, _, _, hok, hel, _⟩ => by cases e with | inl _ => exact hel.elim | el _ _ _ _ _ => exact hok.elim, fun _ _ _ _ _ _ _ _ _ _ _ _ _ ⟨_, _, _, _, e, _, _, _, _, _, hok, hel, _⟩ => by cases e with | inl _ => exact hel.elim | el _ _ _ _ _ => exact hok.elim⟩
  | succ n ih =>
    have GH := GHs n
    refine F.ok scLeft (fun vs H Q E h => ?_) (fun cdv A outer s H vs Q E hr h => ?_)
    · obtain ⟨fv, ev, sv, fs, e, s, rfl, _⟩ := h
      rfl
    · obtain ⟨fv, ev, sv, fs, e, s', rfl, hf, he, hs, hok, hel, hsl, hfl, q⟩ := h
      refine ⟨_, pss_cons (ps_asg (pv 1) (pg_tup rfl (pgs_cons (pg_name (i := 3) scLeft.nd rfl (.inl rfl)) (pgs_cons (pg_name (i := 4) scLeft.nd rfl (.inl rfl)) (pgs_cons (pg_name (i := 5) scLeft.nd rfl (.inl rfl)) (pgs_cons (pg_name (i := 6) scLeft.nd rfl (.inl rfl)) (pgs_cons (pg_name (i := 7) scLeft.nd rfl (.inl rfl)) pgs_nil)))))))
        (pss_cons (ps_if (pt_not (pt_val (pe_call GH hr (by rfl) gH FH.kp bH .nil pass0 (pa_cons (pv 0) (pa_cons (pv 5) (pa_cons (pv 2) pa_nil)))))) (pss_one (ps_ret pe_non)) pss_nil)
        (pss_cons (ps_setLc (i := 8) (own := [("thing", 9)]) (g := gName 9) (tt := tYes) (te := tIf (tTest (tOp (rIn K false) (tOp (rIxT K) (tVar 9) (tC (.int 0))) (tC (.ref aW)))) (tVar 9) (tCall (spLeft n) [] E0 (tCons (tVar 0) (tCons (tVar 9) (tCons (tVar 2) tNil))))) rfl scLeft.nd rfl rfl (sw_true rfl rfl rfl (by decide +kernel)) (pi_tup (pv 7)) (blkOk_by (N := nLeft) (sc := defScope sLeft) (by decide +kernel)) (fun _ _ _ _ _ => (pg_name (i := 9) scLeft.nd rfl (.inl rfl))) (fun _ _ _ _ _ => pts_nil) (fun _ _ _ _ _ => pe_ifExp (pt_cmpR op_in_seq (pe_ix ix_tup (pv 9) pe_int (fun _ _ => rfl)) (pe_glob (v := .ref aW) (by rfl) mW rfl) rfl) (pv 9) (pe_call ih hr (by rfl) g F.kp b .nil pass0 (pa_cons (pv 0) (pa_cons (pv 9) (pa_cons (pv 2) pa_nil))))))
        (pss_one (ps_ret (pe_tup (pa_cons (pv 3) (pa_cons (pv 4) (pa_cons (pv 5) (pa_cons (pv 6) (pa_cons (pe_tupleOf (by rfl) mt (pe_lc (own := [("thing", 9)]) (g := gName 9) (tt := tTest (tOp (fun x y H Q => y = .non ∧ Q (.bl (!decide (x = .non))) H) (tVar 9) (tC .non))) (te := tVar 9) rfl scLeft.nd (pi_list (pv 8)) (blkOk_by (N := nLeft) (sc := defScope sLeft) (by decide +kernel)) (fun _ _ _ _ _ => (pg_name (i := 9) scLeft.nd rfl (.inl rfl))) (fun _ _ _ _ _ => pts_one (pt_cmpR op_notN (pv 9) pe_non (nomark _))) (fun _ _ _ _ _ => pv 9))) pa_nil)))))))))), ?_⟩
      cases e with
      | inl _ => exact hel.elim
      | el k hm wn tie ths =>
        rw [dTh_el] at he
        obtain ⟨a, xs, rfl, ha, hx⟩ := he.tup_inv
        obtain ⟨v1, v2, v3, v4, v5, rfl, r1, r2, r3, r4, r5⟩ := hx.five
        obtain ⟨ta, us, rfl, hta, hus⟩ := r5.tup_inv
        obtain ⟨h1, h2, h3, h4, h5, h6, h7, h8⟩ := hok
        refine ⟨.ref a, rfl, a, _, rfl, SqT.of ha, rfl, _, _, rfl, _, _, rfl, _, _, rfl, _, _, rfl, _, _, rfl, rfl, ?_⟩
        refine ⟨fv, rfl, v3, rfl, sv, rfl, fv, v3, sv, fs, wn, s', rfl, hf, r3, hs, h4, h5, hsl, hfl, fun H1 s1 => ⟨_, rfl, ?_⟩⟩
        dsimp only
        cases hh : holdsM fs s' wn with
        | false =>
          refine q .non H1 s1 ?_
          show Rp H1 .non (dTo (if holdsM fs s' wn = true then _ else none))
          rw [if_neg (by rw [hh]; exact Bool.false_ne_true)]
          exact .non
        | true =>
          have hta1 := s1 _ _ hta
          refine ⟨.ref ta, rfl, ta, rfl, ⟨us, SqT.of hta1⟩, fun D nD => ?_⟩
          refine inner_lc (n := n) (fs := fs) (s := s') nD hta1 (hus.same s1) h7 (fun _ => rfl) (fun i hi x H2 Q2 s2 hx2 hq => ?_) (fun H2 ts s2 d2 r2' => ?_)
          · have s12 := Same.trans s1 s2
            obtain ⟨xa, u, xs', rfl, hxa, hh2⟩ := Th.head hx2 (h8 _ (List.getElem_mem hi))
            have hin : inV (V.str u) (four.map V.str) = isIn four u := rfl
            refine ⟨.ref xa, rfl, xa, _, 0, .str u, rfl, rfl, SqT.of hxa, at0, aW, four.map V.str, rfl, .inr (hW H2), rfl, all_flat four, _, rfl, ?_⟩
            dsimp only
            rw [if_neg Bool.false_ne_true, hin]
            rcases hh2 with ⟨z4, hE⟩ | ⟨z4, hE⟩
            · rw [(isIn_iff four u).mpr z4]
              refine ⟨_, rfl, hq _ _ (Same.refl _) ?_⟩
              generalize ths[i] = th at *
              cases th with
              | inl ws =>
                have : leftN fs s' n (.inl ws) = some (.inl ws) := by cases n <;> rfl
                rw [this]
                exact hx2
              | el _ _ _ _ _ => exact absurd trivial hE
            · have hno : isIn four u = false := by
                cases hb : isIn four u with
                | false => rfl
                | true => exact absurd ((isIn_iff four u).mp hb) z4
              rw [hno]
              exact ⟨fv, rfl, .ref xa, rfl, sv, rfl, fv, .ref xa, sv, fs, ths[i], s', rfl, hf.same s12, hx2, hs.same s12, h8 _ (List.getElem_mem hi), hE, hsl, hfl, fun r H3 s3 h3' => hq r H3 s3 h3'⟩
          · have s12 := Same.trans s1 s2
            refine ⟨v1, rfl, v2, rfl, v3, rfl, v4, rfl, .ref D, rfl, D, rfl, ⟨ts, SqL.of d2⟩, fun D2 nD2 => ?_⟩
            refine some_lc (f := leftN fs s' n) nD2 d2 r2' h7 (fun _ => rfl) (fun _ => rfl) (fun H3 ts3 s3 d3 r3' => ?_)
            refine .inl ⟨D2, ts3, rfl, SqL.of d3, fun tt ntt => ⟨by show 5 ≤ sizeLine; decide, fun ep nep => ?_⟩⟩
            have t1 := same_upd (o := .tup ts3) ntt
            have t2 := same_upd (o := .tup [v1, v2, v3, v4, .ref tt]) nep
            have t12 := Same.trans t1 t2
            have s1e := Same.trans s12 (Same.trans s3 t12)
            refine q (.ref ep) _ s1e ?_
            show Rp _ (.ref ep) (dTo (if holdsM fs s' wn = true then some (Th.el k hm wn tie (ths.filterMap (leftN fs s' n))) else none))
            rw [if_pos hh]
            show Rp _ (.ref ep) (dTh _)
            rw [dTh_el]
            exact .tup upd_same (.cons (r1.same s1e) (.cons (r2.same s1e) (.cons (r3.same s1e) (.cons (r4.same s1e) (.cons (.tup (t2 _ _ upd_same) (r3'.same t12)) .nil)))))
theorem ok_lleft {f fH fS : Addr} {fd fdH fdS : FuncData} (F : Fun K "_law_left_in" "_law_left_in" sLLeft f fd) (b : Binds K fd ["_law_a_facets", "_law_a_element", "_law_a_setting"] []) (g : mg "_law_left_in" = some (.ref f))
    (FH : Fun K "_law_holds" "_law_holds" sLHolds fH fdH) (bH : Binds K fdH ["_law_a_facets", "_law_when_here", "_law_a_setting"] []) (gH : mg "_law_holds" = some (.ref fH)) (GHs : ∀ k, FnOk P w K mg base CX0 (k + 5) fH fdH ["_law_a_facets", "_law_when_here", "_law_a_setting"] (spHolds 3))
    (FS : Fun K "_law_is_element" "_law_is_element" sIsEl fS fdS) (bS : Binds K fdS ["_law_thing"] []) (gS : mg "_law_is_element" = some (.ref fS)) (mt : mg "tuple" = none) : ∀ n, FnOk P w K mg base CX0 (n + 5) f fd ["_law_a_facets", "_law_a_element", "_law_a_setting"] (spLeft n) := by
  intro n
  induction n with
  | zero => exact ⟨fun _ _ _ _ ⟨_, _, _, _, e, _, _, _, _, _, hok, hel, _⟩ => by cases e with | inl _ => exact hel.elim | el _ _ _ _ _ => exact hok.elim, fun _ _ _ _ _ _ _ _ _ _ _ _ _ ⟨_, _, _, _, e, _, _, _, _, _, hok, hel, _⟩ => by cases e with | inl _ => exact hel.elim | el _ _ _ _ _ => exact hok.elim⟩
  | succ n ih =>
    have GH := GHs n
    have GS : FnOk P w K mg base CX0 (n + 5) fS fdS ["_law_thing"] spIsEl := ok_isel (k := n + 4) FS
    refine F.ok scLLeft (fun vs H Q E h => ?_) (fun cdv A outer s H vs Q E hr h => ?_)
    · obtain ⟨fv, ev, sv, fs, e, s, rfl, _⟩ := h
      rfl
    · obtain ⟨fv, ev, sv, fs, e, s', rfl, hf, he, hs, hok, hel, hsl, hfl, q⟩ := h
      refine ⟨_, pss_cons (ps_if (pt_not (pt_val (pe_call GH hr (by rfl) gH FH.kp bH .nil pass0 (pa_cons (pv 0) (pa_cons (pe_ix ix_tup (pv 1) pe_int (fun _ _ => rfl)) (pa_cons (pv 2) pa_nil)))))) (pss_one (ps_ret pe_non)) pss_nil)
        (pss_cons (ps_setLc (i := 3) (own := [("_law_thing", 4)]) (g := gName 4) (tt := tYes) (te := tIf (tB (tCall spIsEl [] E0 (tCons (tVar 4) tNil))) (tCall (spLeft n) [] E0 (tCons (tVar 0) (tCons (tVar 4) (tCons (tVar 2) tNil)))) (tVar 4)) rfl scLLeft.nd rfl rfl (sw_true rfl rfl rfl (by decide +kernel)) (pi_tup (pe_ix ix_tup (pv 1) pe_int (fun _ _ => rfl))) (blkOk_by (N := nLLeft) (sc := defScope sLLeft) (by decide +kernel)) (fun _ _ _ _ _ => (pg_name (i := 4) scLLeft.nd rfl (.inl rfl))) (fun _ _ _ _ _ => pts_nil) (fun _ _ _ _ _ => pe_ifExp (pt_val (pe_call GS hr (by rfl) gS FS.kp bS .nil pass0 (pa_cons (pv 4) pa_nil))) (pe_call ih hr (by rfl) g F.kp b .nil pass0 (pa_cons (pv 0) (pa_cons (pv 4) (pa_cons (pv 2) pa_nil)))) (pv 4)))
        (pss_one (ps_ret (pe_op op_catA (pe_slice sl_tupA (pv 1) po_none (po_some pe_int)) (pe_tup (pa_cons (pe_tupleOf (by rfl) mt (pe_lc (own := [("_law_thing", 4)]) (g := gName 4) (tt := tTest (tOp (fun x y H Q => y = .non ∧ Q (.bl (!decide (x = .non))) H) (tVar 4) (tC .non))) (te := tVar 4) rfl scLLeft.nd (pi_list (pv 3)) (blkOk_by (N := nLLeft) (sc := defScope sLLeft) (by decide +kernel)) (fun _ _ _ _ _ => (pg_name (i := 4) scLLeft.nd rfl (.inl rfl))) (fun _ _ _ _ _ => pts_one (pt_cmpR op_notN (pv 4) pe_non (nomark _))) (fun _ _ _ _ _ => pv 4))) pa_nil)))))), ?_⟩
      cases e with
      | inl _ => exact hel.elim
      | el k hm wn tie ths =>
        rw [dTh_el] at he
        obtain ⟨a, xs, rfl, ha, hx⟩ := he.tup_inv
        obtain ⟨v1, v2, v3, v4, v5, rfl, r1, r2, r3, r4, r5⟩ := hx.five
        obtain ⟨ta, us, rfl, hta, hus⟩ := r5.tup_inv
        obtain ⟨h1, h2, h3, h4, h5, h6, h7, h8⟩ := hok
        refine ⟨fv, rfl, .ref a, rfl, a, _, 2, v3, rfl, rfl, SqT.of ha, rfl, sv, rfl, fv, v3, sv, fs, wn, s', rfl, hf, r3, hs, h4, h5, hsl, hfl, fun H1 s1 => ⟨_, rfl, ?_⟩⟩
        dsimp only
        cases hh : holdsM fs s' wn with
        | false =>
          refine q .non H1 s1 ?_
          show Rp H1 .non (dTo (if holdsM fs s' wn = true then _ else none))
          rw [if_neg (by rw [hh]; exact Bool.false_ne_true)]
          exact .non
        | true =>
          have hta1 := s1 _ _ hta
          refine ⟨.ref a, rfl, a, _, 4, .ref ta, rfl, rfl, SqT.of (s1 _ _ ha), rfl, ta, rfl, ⟨us, SqT.of hta1⟩, fun D nD => ?_⟩
          refine inner_lc (n := n) (fs := fs) (s := s') nD hta1 (hus.same s1) h7 (fun _ => rfl) (fun i hi x H2 Q2 s2 hx2 hq => ?_) (fun H2 ts s2 d2 r2' => ?_)
          · have s12 := Same.trans s1 s2
            have okt := h8 _ (List.getElem_mem hi)
            refine ⟨x, rfl, x, fs, n, ths[i], rfl, hx2, okt, fun bb H3 s3 hbb => ⟨_, rfl, ?_⟩⟩
            dsimp only
            rcases hbb with ⟨rfl, hE⟩ | ⟨rfl, hE⟩
            · exact ⟨fv, rfl, x, rfl, sv, rfl, fv, x, sv, fs, ths[i], s', rfl, hf.same (Same.trans s12 s3), hx2.same s3, hs.same (Same.trans s12 s3), okt, hE, hsl, hfl, fun r H4 s4 h4' => hq r H4 (Same.trans s3 s4) h4'⟩
            · refine ⟨_, rfl, hq _ _ s3 ?_⟩
              generalize ths[i] = th at *
              cases th with
              | inl ws =>
                have : leftN fs s' n (.inl ws) = some (.inl ws) := by cases n <;> rfl
                rw [this]
                exact hx2.same s3
              | el _ _ _ _ _ => exact absurd trivial hE
          · have s12 := Same.trans s1 s2
            have ha2 := s12 _ _ ha
            refine ⟨.ref a, rfl, 4, rfl, slA_use ha2 fun r0 H3 s3 e3 => ?_⟩
            have e3 : H3 r0 = some (.tup [v1, v2, v3, v4]) := e3
            refine ⟨.ref D, rfl, D, rfl, ⟨ts, SqL.of (s3 _ _ d2)⟩, fun D2 nD2 => ?_⟩
            refine some_lc (f := leftN fs s' n) nD2 (s3 _ _ d2) (r2'.same s3) h7 (fun _ => rfl) (fun _ => rfl) (fun H4 ts3 s4 d3 r3' => ?_)
            refine .inl ⟨D2, ts3, rfl, SqL.of d3, fun tt ntt => ⟨by show 1 ≤ sizeLine; decide, fun tp ntp => ?_⟩⟩
            have t1 := same_upd (o := .tup ts3) ntt
            have t2 := same_upd (o := .tup [.ref tt]) ntp
            have t12 := Same.trans t1 t2
            refine catA_use (Same.trans s4 t12 _ _ e3) upd_same (by show 4 + 1 ≤ 1000; decide) fun ep H5 s5 e5 => ?_
            have s1e := Same.trans (Same.trans s12 s3) (Same.trans s4 (Same.trans t12 s5))
            refine q (.ref ep) _ s1e ?_
            show Rp _ (.ref ep) (dTo (if holdsM fs s' wn = true then some (Th.el k hm wn tie (ths.filterMap (leftN fs s' n))) else none))
            rw [if_pos hh]
            show Rp _ (.ref ep) (dTh _)
            rw [dTh_el]
            exact .tup e5 (.cons (r1.same s1e) (.cons (r2.same s1e) (.cons (r3.same s1e) (.cons (r4.same s1e) (.cons (.tup (s5 _ _ (t2 _ _ upd_same)) (r3'.same (Same.trans t12 s5))) .nil)))))
end
end Sg

namespace Sg
open PySem PySem.Spec PyProof.Rows L2
/-! ### the mathematics of settings -/
def stepM (acc : List (List Str)) (ws : List Str) : List (List Str) := acc.flatMap fun s => ws.map fun w => s ++ [w]
def settingsM (c : List (List Str)) : List (List Str) := c.foldl stepM [[]]
theorem stepM_len (acc : List (List Str)) (ws : List Str) : (stepM acc ws).length = acc.length * ws.length := by
  unfold stepM
  induction acc with
  | nil => simp
  | cons s r ih =>
    rw [List.flatMap_cons, List.length_append, ih, List.length_map, List.length_cons, Nat.succ_mul, Nat.add_comm]
theorem settingsM_succ (c : List (List Str)) (i : Nat) (h : i < c.length) : settingsM (c.take (i + 1)) = stepM (settingsM (c.take i)) c[i] := by
  unfold settingsM
  rw [List.take_succ_eq_append_getElem h, List.foldl_append]
  rfl
theorem settingsM_len {c : List (List Str)} (h : ∀ ws ∈ c, ws.length ≤ 4) : ∀ i, i ≤ c.length → (settingsM (c.take i)).length ≤ 4 ^ i
  | 0, _ => by simp [settingsM]
  | i + 1, hi => by
    rw [settingsM_succ c i hi, stepM_len, Nat.pow_succ]
    exact Nat.mul_le_mul (settingsM_len h i (by omega)) (h _ (List.getElem_mem hi))
theorem pow4 {i : Nat} (h : i ≤ 4) : 4 ^ i ≤ 256 := by
  have : i = 0 ∨ i = 1 ∨ i = 2 ∨ i = 3 ∨ i = 4 := by omega
  rcases this with rfl | rfl | rfl | rfl | rfl <;> decide
theorem pow43 {i : Nat} (h : i < 4) : 4 ^ i ≤ 64 := by
  have : i = 0 ∨ i = 1 ∨ i = 2 ∨ i = 3 := by omega
  rcases this with rfl | rfl | rfl | rfl <;> decide
theorem settingsM_each {c : List (List Str)} : ∀ i, i ≤ c.length → ∀ s ∈ settingsM (c.take i), s.length = i
  | 0, _, s, h => by
    have : s = [] := by simpa [settingsM] using h
    rw [this]
    rfl
  | i + 1, hi, s, h => by
    rw [settingsM_succ c i hi] at h
    unfold stepM at h
    obtain ⟨a, ha, hs⟩ := List.mem_flatMap.mp h
    obtain ⟨w, _, rfl⟩ := List.mem_map.mp hs
    rw [List.length_append, settingsM_each i (by omega) a ha]
    rfl
theorem flat_succ {α β : Type} (f : α → List β) (xs : List α) (i : Nat) (h : i < xs.length) : (xs.take (i + 1)).flatMap f = (xs.take i).flatMap f ++ f xs[i] := by
  rw [List.take_succ_eq_append_getElem h, List.flatMap_append, List.flatMap_cons, List.flatMap_nil, List.append_nil]
theorem flat_len_le (acc : List (List Str)) (ws : List Str) (i : Nat) : ((acc.take i).flatMap fun s => ws.map fun w => s ++ [w]).length ≤ acc.length * ws.length := by
  have e := stepM_len (acc.take i) ws
  unfold stepM at e
  rw [e]
  exact Nat.mul_le_mul (by rw [List.length_take]; exact Nat.min_le_right _ _) (Nat.le_refl _)
/-! ### loops, whatever their bodies are -/
theorem out_it {J : It} {n : Nat} {G : Hp → Prop} {Y : Nat → Hp → V → Hp → Prop} (w : Walk J n G Y) {B : (Hp → Prop) → Nat → V → Hp → Hp → Prop} {H1 : Hp} {Qd : Hp → Prop} (Pv : Nat → Hp → Prop) (h0 : Pv 0 H1) (hG : ∀ i H, i ≤ n → Pv i H → G H)
    (hs : ∀ i x H H', i < n → Pv i H → Y i H x H' → B (Pv (i + 1)) i x H H') (hd : ∀ H, Pv n H → Qd H) :
    ∃ W : Nat → Nat → Hp → Prop, (∃ m, W 0 m H1) ∧ ∀ i m H, W i m H → (J.stop i H ∧ Qd H) ∨ (J.go i H ∧ ∃ Nx : Hp → Prop, (∀ H', Nx H' → ∃ m', m' < m ∧ W (i + 1) m' H') ∧ ∀ x H', J.yld i H x H' → B Nx i x H H') := by
  refine ⟨fun i m H => m = n - i ∧ i ≤ n ∧ Pv i H, ⟨n, by simp, Nat.zero_le _, h0⟩, ?_⟩
  rintro i m H ⟨rfl, hi, p⟩
  have q := hG i H hi p
  by_cases hlt : i < n
  · exact .inr ⟨w.goes i H hlt q, Pv (i + 1), fun H' p' => ⟨n - (i + 1), by omega, rfl, hlt, p'⟩, fun x H' y => hs i x H H' hlt p (w.yields i H x H' hlt q y)⟩
  · have e : i = n := by omega
    subst e
    exact .inl ⟨w.stops H q, hd H p⟩
theorem RpAll.snoc {H : Hp} {D : Addr} {us : List V} {p : Addr} {ss : List (List Str)} {ws : List Str} (d : H D = some (.lst us)) (h : RpAll H us (ss.map dW)) (hp : H p = some (.tup (ws.map V.str))) : RpAll (upd H D (.lst (us ++ [.ref p]))) (us ++ [.ref p]) ((ss ++ [ws]).map dW) := by
  rw [List.map_append]
  have kT : KeepT H (upd H D (.lst (us ++ [.ref p]))) := keepT_lst d
  exact (h.keep kT (immAll_map imm_dW ss)).append (.cons ((Rp.dW_mk hp).keep kT (imm_dW ws)) .nil)
def rev3G {α : Type} : List α → List α → List α
  | [], [x, y, z] => [z, y, x]
  | _, _ => []
theorem rev3G_rel {vs zs : List V} {us ws : List Value} (r1 : Vals vs us) (r2 : Vals zs ws) : Vals (rev3G vs zs) (rev3G us ws) := by
  cases r1 with
  | cons _ _ => exact .nil
  | nil =>
    cases r2 with
    | nil => exact .nil
    | cons a r3 =>
      cases r3 with
      | nil => exact .nil
      | cons b r4 =>
        cases r4 with
        | nil => exact .nil
        | cons c r5 =>
          cases r5 with
          | nil => exact .cons c (.cons b (.cons a .nil))
          | cons _ _ => exact .nil
theorem kb_rev3 {K : PySem.W.Frag} {x : Str} {st : Stmt} {f : Addr} {fd : FuncData} (F : Fun K x x st f fd) {a b c : Str}
    (h : ∀ (kV doc pm : Value) (an : Option Addr) (cdv ct : Value) (u v w : Value), bindArgs (PySem.W.fnOf x x (defArgs st) (defBody st) (defScope st) .none kV doc pm an cdv ct) ⟨[], [(c, w), (b, v), (a, u)]⟩ = pure [(a, u), (b, v), (c, w)]) : KBinds K fd [a, b, c] [c, b, a] rev3G rev3G := by
  obtain ⟨oc, od, kV, doc, pm, an, cdv, ct, osl, rfl, lk, hcd⟩ := F.ex
  refine ⟨fun s us ws _ hl => ?_, rev3G_rel⟩
  match us, ws, hl with
  | [], [w, v, u], _ => exact .of_eq (h kV doc pm an cdv ct u v w)
theorem bulk_map {α : Type} {f : α → PyData} {b : Nat} : ∀ {xs : List α}, (∀ x ∈ xs, (f x).bulk ≤ b) → PyData.bulkAll (xs.map f) ≤ xs.length * (b + 1)
  | [], _ => Nat.zero_le _
  | x :: xs, h => by
    rw [List.map_cons, List.length_cons, Nat.succ_mul]
    show (f x).bulk + 1 + PyData.bulkAll (xs.map f) ≤ _
    have h1 := h x (List.mem_cons_self ..)
    have h2 := bulk_map (xs := xs) fun y hy => h y (List.mem_cons_of_mem _ hy)
    omega

theorem settings_len {c : List (List Str)} {s : List Str} (h : s ∈ settingsM c) : s.length = c.length := by
  rw [← List.take_length (l := c)] at h
  exact settingsM_each c.length (Nat.le_refl _) s h
theorem settings_few {c : List (List Str)} (h : COk c) : (settingsM c).length ≤ 256 := by
  have := settingsM_len (fun ws hw => (h.2 ws hw).2.1) c.length (Nat.le_refl _)
  rw [List.take_length] at this
  exact Nat.le_trans this (pow4 h.1)
theorem COk.of {fs : List (Str × List Str)} (h : FOk fs) (hl : fs.length ≤ 4) : COk (fs.map (·.2)) := by
  refine ⟨by rw [List.length_map]; exact hl, fun ws hw => ?_⟩
  obtain ⟨p, hp, rfl⟩ := List.mem_map.mp hw
  obtain ⟨_, h2, h3, h4, _⟩ := h p hp
  exact ⟨by omega, h3, h4⟩
abbrev sLSettings : Stmt := topS 14
abbrev nLSettings : List Str := ["_law_some", "_law_found", "_law_words", "_law_longer", "_law_ahead", "_law_word"]
theorem scLSettings : FnScope nLSettings ["_law_some"] (defScope sLSettings) := ⟨rfl, rfl, rfl, by decide +kernel, rfl, by decide +kernel, by decide +kernel⟩
def spSettings : Sp := fun vs H Q _ => ∃ (v : V) (c : List (List Str)), vs = [v] ∧ Rp H v (.list (c.map dW)) ∧ COk c ∧ ∀ (p : Addr) (H' : Hp), Same H H' → H p = none → Rp H' (.ref p) (.list ((settingsM c).map dW)) → Q (.ref p) H'
section
variable {P : Program} {w : World} {K : PySem.W.Frag} {mg : Str → Option Value} {base : Heap}
theorem ok_lsettings {f : Addr} {fd : FuncData} {k : Nat} (F : Fun K "_law_settings" "_law_settings" sLSettings f fd) : FnOk P w K mg base CX0 (k + 1) f fd ["_law_some"] spSettings := by
  refine F.ok scLSettings (fun vs H Q E h => ?_) (fun cdv A outer s H vs Q E hr h => ?_)
  · obtain ⟨v, c, rfl, _⟩ := h
    rfl
  · obtain ⟨v, c, rfl, hv, hc, q⟩ := h
    refine ⟨_, pss_cons (ps_set (i := 1) scLSettings.nd rfl (.inl rfl) (pe_lst (pa_cons (pe_tup pa_nil) pa_nil)))
      (pss_cons (ps_for PassesOwn.never rfl (pi_list (pv 0)) (pg_name (i := 2) scLSettings.nd rfl (.inl rfl))
        (pss_cons (ps_set (i := 3) scLSettings.nd rfl (.inl rfl) (pe_lst pa_nil))
        (pss_cons (ps_for PassesOwn.never rfl (pi_list (pv 1)) (pg_name (i := 4) scLSettings.nd rfl (.inr rfl))
          (pss_one (ps_set (i := 3) scLSettings.nd rfl (.inl rfl) (pe_op op_cat (pv 3) (pe_lc (own := [("_law_word", 5)]) (g := gName 5) (tt := tYes) (te := tOp (rCatA K) (tVar 4) (tTup (tCons (tVar 5) tNil))) rfl scLSettings.nd (pi_tup (pv 2)) (blkOk_by (N := nLSettings) (sc := defScope sLSettings) (by decide +kernel))
            (fun _ _ _ _ _ => pg_name (i := 5) scLSettings.nd rfl (.inl rfl)) (fun _ _ _ _ _ => pts_nil) (fun _ _ _ _ _ => pe_op op_catA (pv 4) (pe_tup (pa_cons (pv 5) pa_nil))))))))
        (pss_one (ps_set (i := 1) scLSettings.nd rfl (.inl rfl) (pv 3))))))
      (pss_one (ps_ret (pv 1)))), ?_⟩
    refine ⟨Nat.zero_le _, fun t0 nt0 => ⟨by show 1 ≤ sizeLine; decide, fun l0 nl0 => ?_⟩⟩
    have s0 : Same H (upd (upd H t0 (.tup [])) l0 (.lst [.ref t0])) := Same.trans (same_upd nt0) (same_upd nl0)
    have nl0H : H l0 = none := (same_upd nt0).free nl0
    have nlt0 : t0 ≠ l0 := fun e => by
      subst e
      rw [upd_same] at nl0
      cases nl0
    cases hv with
      | lst ha hs =>
        rename_i a vs
        have hlen := hs.length
        rw [List.length_map] at hlen
        refine ⟨.ref a, rfl, a, rfl, ⟨vs, SqL.of (s0 _ _ ha)⟩, ?_⟩
        refine for_it (walk_list (xs := vs)) (fun i σ H3 => ∃ (y2 y3 y4 : Option V) (l : Addr) (us : List V), σ = [some (.ref a), some (.ref l), y2, y3, y4, none] ∧ Same H H3 ∧ H l = none ∧ H3 l = some (.lst us) ∧ RpAll H3 us ((settingsM (c.take i)).map dW)) ?_ ?_ ?_ ?_
        · refine ⟨none, none, none, l0, [.ref t0], rfl, s0, nl0H, upd_same, ?_⟩
          show RpAll _ [.ref t0] [dW []]
          refine .cons (Rp.dW_mk ?_) .nil
          rw [upd_ne nlt0, upd_same]
          rfl
        · rintro i σ H3 _ ⟨y2, y3, y4, l, us, rfl, s3, _⟩
          exact SqL.of (s3 _ _ ha)
        · rintro i x σ H4 H3 hi ⟨y2, y3, y4, l, us, rfl, s3, nl, d3, r3⟩ ⟨rfl, fx⟩
          obtain ⟨d, hd, hx⟩ := hs.get fx
          have hic : i < c.length := by omega
          rw [List.getElem?_map, List.getElem?_eq_getElem hic] at hd
          cases hd
          obtain ⟨b, rfl, hb⟩ := (hx.same s3).dW_inv
          have hlw : c[i].length ≤ 4 := (hc.2 _ (List.getElem_mem hic)).2.1
          have hS := settingsM_len (fun ws hw => (hc.2 ws hw).2.1) i (by omega)
          have h4 := pow43 (i := i) (by have := hc.1; omega)
          have hE := settingsM_each (c := c) i (by omega)
          generalize hss : settingsM (c.take i) = ss at *
          have hlu := r3.length
          rw [List.length_map] at hlu
          have hmul : ss.length * c[i].length ≤ 64 * 4 := Nat.mul_le_mul (by omega) hlw
          refine ⟨Nat.zero_le _, fun lg nlg => ?_⟩
          have sg : Same H3 (upd H3 lg (.lst [])) := same_upd nlg
          refine ⟨.ref l, rfl, l, rfl, ⟨us, SqL.of (sg _ _ d3)⟩, ?_⟩
          refine for_it (walk_list (xs := us)) (fun j σ H5 => ∃ (y4 : Option V) (lg : Addr) (ts : List V), σ = [some (.ref a), some (.ref l), some (.ref b), some (.ref lg), y4, none] ∧ Same H3 H5 ∧ H3 lg = none ∧ H5 lg = some (.lst ts) ∧ RpAll H5 ts (((ss.take j).flatMap fun s => c[i].map fun w => s ++ [w]).map dW)) ⟨_, lg, [], rfl, sg, nlg, upd_same, .nil⟩ ?_ ?_ ?_
          · rintro j σ H5 _ ⟨y4, lg, ts, rfl, s5, _⟩
            exact SqL.of (s5 _ _ d3)
          · clear nlg sg
            rintro j x σ H6 H5 hj ⟨y4, lg, ts, rfl, s5, nlg, d5, r5⟩ ⟨rfl, fy⟩
            obtain ⟨dd, hdd, hx2⟩ := r3.get fy
            have hjs : j < ss.length := by omega
            rw [List.getElem?_map, List.getElem?_eq_getElem hjs] at hdd
            cases hdd
            obtain ⟨g, rfl, hg⟩ := hx2.dW_inv
            refine ⟨.ref lg, rfl, .ref b, rfl, b, rfl, ⟨_, SqT.of (s5 _ _ hb)⟩, fun D nD => ?_⟩
            have nD3 : H3 D = none := s5.free nD
            refine lc_it (walk_tup (xs := c[i].map V.str)) (fun m H7 => ∃ zs : List V, Same H5 H7 ∧ H7 D = some (.lst zs) ∧ RpAll H7 zs (((c[i].take m).map fun w => ss[j] ++ [w]).map dW)) ⟨[], same_upd nD, upd_same, .nil⟩ ?_ ?_ ?_
            · rintro m H7 _ ⟨zs, s7, _⟩
              exact SqT.of (s7 _ _ (s5 _ _ hb))
            · rintro m x H8 H7 hm ⟨zs, s7, d7, r7⟩ ⟨rfl, fz⟩
              rw [List.length_map] at hm
              rw [List.getElem?_map, List.getElem?_eq_getElem hm] at fz
              cases fz
              have hts := r7.length
              rw [List.length_map, List.length_map, List.length_take] at hts
              have e1 : (c[i].take (m + 1)).map (fun w => ss[j] ++ [w]) = (c[i].take m).map (fun w => ss[j] ++ [w]) ++ [ss[j] ++ [c[i][m]]] := by
                rw [List.take_succ_eq_append_getElem hm, List.map_append]
                rfl
              refine ⟨rfl, .ref g, rfl, .str c[i][m], rfl, by show 1 ≤ sizeLine; decide, fun p np => ?_⟩
              have sp : Same H7 (upd H7 p (.tup [.str c[i][m]])) := same_upd np
              refine ⟨g, p, ss[j].map V.str, [.str c[i][m]], rfl, rfl, SqT.of (sp _ _ (s7 _ _ (s5 _ _ hg))), SqT.of upd_same, ?_, fun e0 => ?_, (fun _ e => nomatch e), fun e0 _ => fun p2 np2 => ?_⟩
              · have hej := hE _ (List.getElem_mem hjs)
                have := hc.1
                rw [List.length_map, hej]
                exact sz _ (by simp; omega)
              · have hs0 : ss[j] = [] := by simpa using e0
                have d8 := sp _ _ d7
                refine ⟨zs, d8, small1000 (by omega), zs ++ [.ref p], fun a o e => ?_, upd_same, ?_⟩
                · rw [upd_ne (fun z => by subst z; rw [nD] at e; cases e)]
                  exact sp _ _ (s7 _ _ e)
                · rw [e1]
                  refine RpAll.snoc d8 (r7.same sp) ?_
                  rw [hs0]
                  exact upd_same
              · have sp2 := Same.trans sp (same_upd (o := .tup (ss[j].map V.str ++ [.str c[i][m]])) np2)
                have d8 := sp2 _ _ d7
                refine ⟨zs, d8, small1000 (by omega), zs ++ [.ref p2], fun a o e => ?_, upd_same, ?_⟩
                · rw [upd_ne (fun z => by subst z; rw [nD] at e; cases e)]
                  exact sp2 _ _ (s7 _ _ e)
                · rw [e1]
                  refine RpAll.snoc d8 (r7.same sp2) ?_
                  rw [List.map_append]
                  exact upd_same
            · rintro H7 ⟨zs, s7, d7, r7⟩
              rw [List.length_map, List.take_length] at r7
              have d8 := s7 _ _ d5
              have hz := r7.length
              have ht := r5.length
              have hfl := flat_len_le ss c[i] j
              rw [List.length_map, List.length_map] at hz
              rw [List.length_map] at ht
              refine ⟨lg, D, ts, zs, rfl, rfl, d8, d7, sz _ (by omega), fun l2 nl2 => ?_⟩
              have s2 := same_upd (o := .lst (ts ++ zs)) nl2
              refine ⟨some (.ref g), l2, ts ++ zs, rfl, Same.trans s5 (Same.trans s7 s2), s5.free (s7.free nl2), upd_same, ?_⟩
              rw [flat_succ _ _ _ hjs, List.map_append]
              exact (r5.same (Same.trans s7 s2)).append (r7.same s2)
          · rintro σ H5 ⟨y4, lg, ts, rfl, s5, nlg, d5, r5⟩
            refine ⟨.ref lg, rfl, some (.ref b), some (.ref lg), y4, lg, ts, rfl, Same.trans s3 s5, s3.free nlg, d5, ?_⟩
            rw [settingsM_succ c i hic, hss]
            rw [hlu, List.take_length] at r5
            exact r5
        · rintro σ H3 ⟨y2, y3, y4, l, us, rfl, s3, nl, d3, r3⟩
          rw [hlen, List.take_length] at r3
          exact ⟨.ref l, rfl, q _ _ s3 nl (.lst d3 r3)⟩
end
/-! ### the shapes of elements -/
mutual
inductive Tt : PyData → Prop
  | str {x : Str} : PyData.strOk x = true → Tt (.str x)
  | tup {xs : List PyData} : Tts xs → Tt (.tuple xs)
inductive Tts : List PyData → Prop
  | nil : Tts []
  | cons {d : PyData} {ds : List PyData} : Tt d → Tts ds → Tts (d :: ds)
end
mutual
theorem Tt.show : ∀ {d : PyData}, Tt d → d.showable = true
  | _, .str _ => rfl
  | _, .tup h => Tts.show h
theorem Tts.show : ∀ {ds : List PyData}, Tts ds → PyData.showableAll ds = true
  | _, .nil => rfl
  | _, .cons (d := d) (ds := ds) h hs => by
    show (d.showable && PyData.showableAll ds) = true
    rw [Tt.show h, Tts.show hs]
    rfl
end
mutual
theorem Tt.lay : ∀ {d : PyData}, Tt d → d.canLay0 = true
  | _, .str h => h
  | _, .tup h => Tts.lay h
theorem Tts.lay : ∀ {ds : List PyData}, Tts ds → PyData.canLayAll0 ds = true
  | _, .nil => rfl
  | _, .cons (d := d) (ds := ds) h hs => by
    show (d.canLay0 && PyData.canLayAll0 ds) = true
    rw [Tt.lay h, Tts.lay hs]
    rfl
end
mutual
theorem Tt.short : ∀ {d : PyData}, Tt d → d.leavesShort 8 = true
  | _, .str (x := x) h => by
    show (x.cps.toList.all fun c => decide (c < 16 ^ 8)) = true
    rw [List.all_eq_true]
    intro c hc
    exact decide_eq_true (Nat.lt_trans (sOk_iff.mp h c hc) (by decide))
  | _, .tup h => Tts.short h
theorem Tts.short : ∀ {ds : List PyData}, Tts ds → PyData.leavesShortAll 8 ds = true
  | _, .nil => rfl
  | _, .cons (d := d) (ds := ds) h hs => by
    show (d.leavesShort 8 && PyData.leavesShortAll 8 ds) = true
    rw [Tt.short h, Tts.short hs]
    rfl
end
theorem Tts.map {α : Type} {f : α → PyData} : ∀ {xs : List α}, (∀ x ∈ xs, Tt (f x)) → Tts (xs.map f)
  | [], _ => .nil
  | x :: xs, h => .cons (h x (List.mem_cons_self ..)) (Tts.map fun y hy => h y (List.mem_cons_of_mem _ hy))
theorem Tt.dW {ws : List Str} (h : ∀ x ∈ ws, PyData.strOk x = true) : Tt (dW ws) := .tup (Tts.map fun x hx => .str (h x hx))
theorem Tt.dN {fs : List (Str × List Str)} (hf : FOk fs) : ∀ {w : Wn}, WOk fs w → Tt (dN w)
  | .always, _ => .tup (.cons (.str (by decide +kernel)) .nil)
  | .is f ws, ⟨⟨p, hp, e⟩, p2, hp2, _, _, hs, _⟩ => .tup (.cons (.str (by decide +kernel)) (.cons (.str (by rw [← e]; exact (hf p hp).1.2.ok)) (.cons (Tt.dW fun x hx => ((hf p2 hp2).2.2.2.1 x (hs x hx)).2.ok) .nil)))
  | .nt w, h => .tup (.cons (.str (by decide +kernel)) (.cons (Tt.dN hf (w := w) h) .nil))
  | .both a b, h => .tup (.cons (.str (by decide +kernel)) (.cons (Tt.dN hf (w := a) h.1) (.cons (Tt.dN hf (w := b) h.2) .nil)))
  | .either a b, h => .tup (.cons (.str (by decide +kernel)) (.cons (Tt.dN hf (w := a) h.1) (.cons (Tt.dN hf (w := b) h.2) .nil)))
theorem Tt.home {h : Option (Str × Str)} (ok : HOk h) : Tt (dHome h) := by
  cases h with
  | none => exact .tup .nil
  | some p => exact .tup (.cons (.str (ok p rfl).1.2) (.cons (.str (ok p rfl).2.2) .nil))
theorem four_tx : ∀ u ∈ four, Tx 40 u := by
  have : ∀ u ∈ four, u.length ≤ 40 ∧ PyData.strOk u = true := by decide +kernel
  exact this
theorem IOk.tx {ws : List Str} (h : IOk ws) : ws.length ≤ 4 ∧ ∀ x ∈ ws, Tx 40 x := by
  obtain ⟨u, us, rfl, h4, hl, hx⟩ := h
  refine ⟨by rw [List.length_cons]; omega, fun x hm => ?_⟩
  rcases List.mem_cons.mp hm with rfl | z
  · exact four_tx _ h4
  · exact hx x z
theorem TOk.inl {fs : List (Str × List Str)} {n : Nat} {ws : List Str} (h : TOk fs n (.inl ws)) : IOk ws := by
  cases n <;> exact h
theorem Tt.th {fs : List (Str × List Str)} (hf : FOk fs) : ∀ {n : Nat} {t : Th}, TOk fs n t → Tt (dTh t)
  | n, .inl ws, h => by
    rw [dTh_inl]
    exact Tt.dW fun x hx => ((TOk.inl h).tx.2 x hx).2
  | 0, .el _ _ _ _ _, h => h.elim
  | n + 1, .el k hm w tie ths, ⟨_, h2, h3, h4, _, h6, _, h8⟩ => by
    rw [dTh_el]
    exact .tup (.cons (.str h2.2) (.cons (Tt.home h3) (.cons (Tt.dN hf h4) (.cons (.str h6.2) (.cons (.tup (Tts.map fun t ht => Tt.th hf (h8 t ht))) .nil)))))
def wbk : Nat → Nat
  | 0 => 100
  | d + 1 => 2 * wbk d + 20
theorem bulk_dW {ws : List Str} {m b : Nat} (h : ∀ x ∈ ws, x.length ≤ b) (hl : ws.length ≤ m) : (dW ws).bulk ≤ m * (b + 1) := by
  have : PyData.bulkAll (ws.map .str) ≤ ws.length * (b + 1) := bulk_map fun x hx => h x hx
  exact Nat.le_trans this (Nat.mul_le_mul_right _ hl)
theorem wbk_ge : ∀ d, 100 ≤ wbk d
  | 0 => Nat.le_refl _
  | d + 1 => by
    have := wbk_ge d
    show 100 ≤ 2 * wbk d + 20
    omega
theorem bulk_dN {fs : List (Str × List Str)} (hf : FOk fs) : ∀ {w : Wn} {d : Nat}, WOk fs w → dep w ≤ d → (dN w).bulk ≤ wbk d
  | .always, d, _, _ => Nat.le_trans (by show 6 + 1 + 0 ≤ 100; decide) (wbk_ge d)
  | .is f ws, d, ⟨⟨p, hp, e⟩, p2, hp2, _, _, hs, hu⟩, _ => by
    have h1 : f.length ≤ 16 := by
      rw [← e]
      exact (hf p hp).1.1
    have h2 : ws.length ≤ 4 := Nat.le_trans (len_le (pairwise_nodup hu) hs) (hf p2 hp2).2.2.1
    have h3 : (dW ws).bulk ≤ 4 * (16 + 1) := bulk_dW (fun x hx => ((hf p2 hp2).2.2.2.1 x (hs x hx)).1) h2
    have := wbk_ge d
    show 2 + 1 + (f.length + 1 + ((dW ws).bulk + 1 + 0)) ≤ wbk d
    omega
  | .nt w, d, h, hd => by
    have hd : dep w + 1 ≤ d := hd
    obtain ⟨d, rfl⟩ : ∃ d', d = d' + 1 := ⟨d - 1, by omega⟩
    have h1 := bulk_dN hf (w := w) (d := d) h (by omega)
    show 3 + 1 + ((dN w).bulk + 1 + 0) ≤ 2 * wbk d + 20
    omega
  | .both a b, d, h, hd => by
    have hd : max (dep a) (dep b) + 1 ≤ d := hd
    obtain ⟨d, rfl⟩ : ∃ d', d = d' + 1 := ⟨d - 1, by omega⟩
    have h1 := bulk_dN hf (w := a) (d := d) h.1 (by omega)
    have h2 := bulk_dN hf (w := b) (d := d) h.2 (by omega)
    show 4 + 1 + ((dN a).bulk + 1 + ((dN b).bulk + 1 + 0)) ≤ 2 * wbk d + 20
    omega
  | .either a b, d, h, hd => by
    have hd : max (dep a) (dep b) + 1 ≤ d := hd
    obtain ⟨d, rfl⟩ : ∃ d', d = d' + 1 := ⟨d - 1, by omega⟩
    have h1 := bulk_dN hf (w := a) (d := d) h.1 (by omega)
    have h2 := bulk_dN hf (w := b) (d := d) h.2 (by omega)
    show 6 + 1 + ((dN a).bulk + 1 + ((dN b).bulk + 1 + 0)) ≤ 2 * wbk d + 20
    omega
def tbk : Nat → Nat
  | 0 => 200
  | n + 1 => 4 * tbk n + 2000
theorem tbk_ge : ∀ n, 200 ≤ tbk n
  | 0 => Nat.le_refl _
  | n + 1 => by
    show 200 ≤ 4 * tbk n + 2000
    omega
theorem bulk_home {h : Option (Str × Str)} (ok : HOk h) : (dHome h).bulk ≤ 34 := by
  cases h with
  | none => exact Nat.zero_le _
  | some p =>
    have h1 := (ok p rfl).1.1
    have h2 := (ok p rfl).2.1
    show p.1.length + 1 + (p.2.length + 1 + 0) ≤ 34
    omega
theorem bulk_th {fs : List (Str × List Str)} (hf : FOk fs) : ∀ {n : Nat} {t : Th}, TOk fs n t → (dTh t).bulk ≤ tbk n
  | n, .inl ws, h => by
    rw [dTh_inl]
    have h1 := (TOk.inl h).tx
    exact Nat.le_trans (bulk_dW (b := 40) (fun x hx => (h1.2 x hx).1) h1.1) (Nat.le_trans (by decide) (tbk_ge n))
  | 0, .el _ _ _ _ _, h => h.elim
  | n + 1, .el k hm w tie ths, ⟨_, h2, h3, h4, h5, h6, h7, h8⟩ => by
    rw [dTh_el]
    have a1 := h2.1
    have a2 := bulk_home h3
    have a3 : (dN w).bulk ≤ 940 := bulk_dN hf (d := 3) h4 h5
    have a4 := h6.1
    have a5 : PyData.bulkAll (ths.map dTh) ≤ ths.length * (tbk n + 1) := bulk_map fun t ht => bulk_th hf (h8 t ht)
    have a6 : ths.length * (tbk n + 1) ≤ 4 * (tbk n + 1) := Nat.mul_le_mul_right _ h7
    show k.length + 1 + ((dHome hm).bulk + 1 + ((dN w).bulk + 1 + (tie.length + 1 + (PyData.bulkAll (ths.map dTh) + 1 + 0)))) ≤ 4 * tbk n + 2000
    omega
theorem dep_dN : ∀ w : Wn, (dN w).depth ≤ dep w + 1
  | .always => by
    show PyData.depthAll [.str _] + 1 ≤ 1 + 1
    decide
  | .is f ws => by
    have := dep_dW ws
    show max 0 (max 0 (max (dW ws).depth 0)) + 1 ≤ 1 + 1
    omega
  | .nt w => by
    have := dep_dN w
    show max 0 (max (dN w).depth 0) + 1 ≤ dep w + 1 + 1
    omega
  | .both a b => by
    have := dep_dN a
    have := dep_dN b
    show max 0 (max (dN a).depth (max (dN b).depth 0)) + 1 ≤ max (dep a) (dep b) + 1 + 1
    omega
  | .either a b => by
    have := dep_dN a
    have := dep_dN b
    show max 0 (max (dN a).depth (max (dN b).depth 0)) + 1 ≤ max (dep a) (dep b) + 1 + 1
    omega
theorem dep_th {fs : List (Str × List Str)} : ∀ {n : Nat} {t : Th}, TOk fs n t → (dTh t).depth ≤ 2 * n + 3
  | n, .inl ws, h => by
    rw [dTh_inl]
    have := dep_dW ws
    omega
  | 0, .el _ _ _ _ _, h => h.elim
  | n + 1, .el k hm w tie ths, ⟨_, h2, h3, h4, h5, h6, h7, h8⟩ => by
    rw [dTh_el]
    have a1 := dep_dN w
    have a2 : PyData.depthAll (ths.map dTh) ≤ 2 * n + 3 := depthAll_map fun t ht => dep_th (h8 t ht)
    have a3 : (dHome hm).depth ≤ 1 := by
      cases hm with
      | none => exact Nat.le_refl _
      | some p => exact Nat.le_refl _
    show max 0 (max (dHome hm).depth (max (dN w).depth (max 0 (max (PyData.depthAll (ths.map dTh) + 1) 0)))) + 1 ≤ 2 * (n + 1) + 3
    omega
theorem repr_th {fs : List (Str × List Str)} (hf : FOk fs) {t : Th} (h : TOk fs 3 t) : (dTh t).showable = true ∧ (dTh t).hasDict = false ∧ (dTh t).depth ≤ 60 ∧ (dTh t).shown.length ≤ sizeLine := by
  have ht := Tt.th hf h
  refine ⟨ht.show, PyData.hasDict_of_canLay _ ht.lay, Nat.le_trans (dep_th h) (by decide), PyData.shown_fits_bulk (B := 8) (by decide) (by decide) ht.short (Nat.le_trans (bulk_th hf h) (by decide))⟩
theorem fit_dW (ws : List Str) (h : ws.length ≤ 1000) {m : Nat} (hm : 1 ≤ m) : Fit m (dW ws) := by
  obtain ⟨m, rfl⟩ : ∃ m', m = m' + 1 := ⟨m - 1, by omega⟩
  refine ⟨by rw [List.length_map]; exact h, fun d hd => ?_⟩
  obtain ⟨x, _, rfl⟩ := List.mem_map.mp hd
  cases m <;> trivial
theorem fit_str (m : Nat) (x : Str) : Fit m (.str x) := by
  cases m <;> trivial
theorem fit_mem {P : PyData → Prop} : ∀ {ds : List PyData}, (∀ d ∈ ds, P d) → ∀ d ∈ ds, P d := fun h => h
theorem fit_dN {fs : List (Str × List Str)} (hf : FOk fs) : ∀ {w : Wn} {m : Nat}, WOk fs w → dep w + 1 ≤ m → Fit m (dN w)
  | .always, m, _, hm => by
    obtain ⟨m, rfl⟩ : ∃ m', m = m' + 1 := ⟨m - 1, by omega⟩
    refine ⟨by show 1 ≤ 1000; decide, fun d hd => ?_⟩
    rw [List.mem_singleton.mp hd]
    exact fit_str _ _
  | .is f ws, m, ⟨_, p2, hp2, _, _, hs, hu⟩, hm => by
    have h2 : ws.length ≤ 4 := Nat.le_trans (len_le (pairwise_nodup hu) hs) (hf p2 hp2).2.2.1
    have hm : 1 + 1 ≤ m := hm
    obtain ⟨m, rfl⟩ : ∃ m', m = m' + 1 := ⟨m - 1, by omega⟩
    refine ⟨by show 3 ≤ 1000; decide, fun d hd => ?_⟩
    simp only [List.mem_cons, List.not_mem_nil, or_false] at hd
    rcases hd with rfl | rfl | rfl
    · exact fit_str _ _
    · exact fit_str _ _
    · exact fit_dW ws (by omega) (by omega)
  | .nt w, m, h, hm => by
    have hm : dep w + 1 + 1 ≤ m := hm
    obtain ⟨m, rfl⟩ : ∃ m', m = m' + 1 := ⟨m - 1, by omega⟩
    refine ⟨by show 2 ≤ 1000; decide, fun d hd => ?_⟩
    simp only [List.mem_cons, List.not_mem_nil, or_false] at hd
    rcases hd with rfl | rfl
    · exact fit_str _ _
    · exact fit_dN hf (w := w) h (by omega)
  | .both a b, m, h, hm => by
    have hm : max (dep a) (dep b) + 1 + 1 ≤ m := hm
    obtain ⟨m, rfl⟩ : ∃ m', m = m' + 1 := ⟨m - 1, by omega⟩
    refine ⟨by show 3 ≤ 1000; decide, fun d hd => ?_⟩
    simp only [List.mem_cons, List.not_mem_nil, or_false] at hd
    rcases hd with rfl | rfl | rfl
    · exact fit_str _ _
    · exact fit_dN hf (w := a) h.1 (by omega)
    · exact fit_dN hf (w := b) h.2 (by omega)
  | .either a b, m, h, hm => by
    have hm : max (dep a) (dep b) + 1 + 1 ≤ m := hm
    obtain ⟨m, rfl⟩ : ∃ m', m = m' + 1 := ⟨m - 1, by omega⟩
    refine ⟨by show 3 ≤ 1000; decide, fun d hd => ?_⟩
    simp only [List.mem_cons, List.not_mem_nil, or_false] at hd
    rcases hd with rfl | rfl | rfl
    · exact fit_str _ _
    · exact fit_dN hf (w := a) h.1 (by omega)
    · exact fit_dN hf (w := b) h.2 (by omega)
theorem fit_th {fs : List (Str × List Str)} (hf : FOk fs) : ∀ {n m : Nat} {t : Th}, TOk fs n t → 2 * n + 3 ≤ m → Fit m (dTh t)
  | n, m, .inl ws, h, hm => by
    rw [dTh_inl]
    have := (TOk.inl h).tx.1
    exact fit_dW ws (by omega) (by omega)
  | 0, _, .el _ _ _ _ _, h, _ => h.elim
  | n + 1, m, .el k hm w tie ths, ⟨_, h2, h3, h4, h5, h6, h7, h8⟩, hmm => by
    rw [dTh_el]
    obtain ⟨m, rfl⟩ : ∃ m', m = m' + 2 := ⟨m - 2, by omega⟩
    refine ⟨by show 5 ≤ 1000; decide, fun d hd => ?_⟩
    simp only [List.mem_cons, List.not_mem_nil, or_false] at hd
    rcases hd with rfl | rfl | rfl | rfl | rfl
    · exact fit_str _ _
    · cases hm with
      | none => exact ⟨Nat.zero_le _, fun d hd => by cases hd⟩
      | some p =>
        refine ⟨by show 2 ≤ 1000; decide, fun d hd => ?_⟩
        simp only [List.mem_cons, List.not_mem_nil, or_false] at hd
        rcases hd with rfl | rfl <;> exact fit_str _ _
    · exact fit_dN hf h4 (by omega)
    · exact fit_str _ _
    · refine ⟨by rw [List.length_map]; omega, fun d hd => ?_⟩
      obtain ⟨t, ht, rfl⟩ := List.mem_map.mp hd
      exact fit_th hf (h8 t ht) (by omega)
end Sg

namespace Sg
open PySem PySem.Spec PyProof.Rows L2
abbrev sRight : Stmt := topS 24
abbrev nRight : List Str := ["_law_tape_here", "_law_sides", "_law_a_element", "_law_kept", "_law_settings_here", "_law_a_setting", "_law_due", "_law_found", "_law_name", "_law_words"]
theorem scRight : FnScope nRight ["_law_tape_here", "_law_sides", "_law_a_element"] (defScope sRight) := ⟨rfl, rfl, rfl, by decide +kernel, rfl, by decide +kernel, by decide +kernel⟩
theorem hu65 {k : Nat} {A : Around} (r : Room k A) : A.units + 65 < cLine := by
  have := r.un
  omega
theorem Th.ref {H : Hp} {v : V} {t : Th} (h : Rp H v (dTh t)) : ∃ a, v = .ref a := by
  cases t with
  | inl ws =>
    rw [dTh_inl] at h
    obtain ⟨a, e, _⟩ := h.dW_inv
    exact ⟨a, e⟩
  | el k hm w tie ths =>
    rw [dTh_el] at h
    obtain ⟨a, _, e, _⟩ := h.tup_inv
    exact ⟨a, e⟩
section
variable {P : Program} {w : World} {K : PySem.W.Frag} {mg : Str → Option Value} {base : Heap}
def spRight : Sp := fun vs H Q _ => ∃ (t : Addr) (fv ev : V) (fs : List (Str × List Str)) (e : Th) (n : Nat), vs = [.ref t, fv, ev] ∧ Rp H fv (dF fs) ∧ Rp H ev (dTh e) ∧ FOk fs ∧ 1 ≤ fs.length ∧ fs.length ≤ 3 ∧ TOk fs 3 e ∧ IsEl e ∧ TapeAt H t n ∧ n ≤ 800000 ∧ ∀ (H' : Hp), Ex t H H' → TapeAt H' t (n + 8) → Q (.bl true) H'
theorem ok_right {f fS fP fL fI fE : Addr} {fd fdS fdP fdL fdI fdE : FuncData} (F : Fun K "_law_right" "_law_right" sRight f fd)
    (FS : Fun K "_law_settings" "_law_settings" sLSettings fS fdS) (bS : Binds K fdS ["_law_some"] []) (gS : mg "_law_settings" = some (.ref fS)) (GS : FnOk P w K mg base CX0 11 fS fdS ["_law_some"] spSettings)
    (FP : Fun K "_law_part" "_law_part" sPart fP fdP) (bP : Binds K fdP ["_law_tape_here", "_law_some", "_law_many"] []) (gP : mg "_law_part" = some (.ref fP)) (GP : FnOk P w K mg base CX0 11 fP fdP ["_law_tape_here", "_law_some", "_law_many"] spPart)
    (FL : Fun K "_law_left_in" "_law_left_in" sLLeft fL fdL) (bL : Binds K fdL ["_law_a_facets", "_law_a_element", "_law_a_setting"] []) (gL : mg "_law_left_in" = some (.ref fL)) (GL : FnOk P w K mg base CX0 11 fL fdL ["_law_a_facets", "_law_a_element", "_law_a_setting"] (spLeft 3))
    (FI : Fun K "left_in" "left_in" sLeft fI fdI) (bI : Binds K fdI ["facets", "element", "setting"] []) (kI : KBinds K fdI ["facets", "element", "setting"] ["setting", "element", "facets"] rev3G rev3G) (gI : mg "left_in" = some (.ref fI)) (GI : FnOk P w K mg base CX0 11 fI fdI ["facets", "element", "setting"] (spLeft 3))
    (FE : Fun K "_law_same" "_law_same" sSame fE fdE) (bE : Binds K fdE ["_law_found", "_law_due"] []) (gE : mg "_law_same" = some (.ref fE)) (GE : FnOk P w K mg base CX0 11 fE fdE ["_law_found", "_law_due"] (spSame 11))
    (ml : mg "len" = none) (mm : mg "min" = none) (mre : mg "repr" = none) : FnG P w K mg base 12 f fd ["_law_tape_here", "_law_sides", "_law_a_element"] spRight := by
  refine okG F scRight (fun vs H Q E h => ?_) (fun cdv B fr z H vs Q E hgd hr h => ?_)
  · obtain ⟨t, fv, ev, fs, e, n, rfl, _⟩ := h
    rfl
  · obtain ⟨t, fv, ev, fs, e, n, rfl, hfv, hev, hfo, hf1, hf3, hok, hel, hT, hn, q⟩ := h
    refine ⟨_, (pss_cons (ps_set (i := 3) scRight.nd rfl (.inl rfl) (pe_callB (call_reprD hgd (hu65 hr)) (by rfl) mre (by decide +kernel) (pa_cons (pv 2) pa_nil)))
        (pss_cons (ps_set (i := 4) scRight.nd rfl (.inl rfl) (pe_call GS hr (by rfl) gS FS.kp bS .nil pass0 (pa_cons (pe_lc (own := [("_law_name", 8), ("_law_words", 9)]) (g := gTup K 2 (gCons (gName 8) (gCons (gName 9) gNil))) (tt := tYes) (te := tVar 9) rfl scRight.nd (pi_tup (pv 1)) (blkOk_by (N := nRight) (sc := defScope sRight) (by decide +kernel)) (fun _ _ _ _ _ => pg_tup rfl (pgs_cons (pg_name (i := 8) scRight.nd rfl (.inl rfl)) (pgs_cons (pg_name (i := 9) scRight.nd rfl (.inl rfl)) pgs_nil))) (fun _ _ _ _ _ => pts_nil) (fun _ _ _ _ _ => pv 9)) pa_nil)))
        (pss_cons (ps_for PassesOwn.never rfl (pi_list (pe_call GP hr (by rfl) gP FP.kp bP .nil pass0 (pa_cons (pv 0) (pa_cons (pv 4) (pa_cons (pe_callB (call_min2 rfl) (by rfl) mm (by decide +kernel) (pa_cons pe_int (pa_cons (pe_callB call_len_seq (by rfl) ml PySem.boot_len (pa_cons (pv 4) pa_nil)) pa_nil))) pa_nil))))) (pg_name (i := 5) scRight.nd rfl (.inl rfl))
        (pss_cons (ps_set (i := 6) scRight.nd rfl (.inl rfl) (pe_call GL hr (by rfl) gL FL.kp bL .nil pass0 (pa_cons (pv 1) (pa_cons (pv 2) (pa_cons (pv 5) pa_nil)))))
        (pss_cons (ps_set (i := 7) scRight.nd rfl (.inl rfl) (pe_lst (pa_cons (pe_call GI hr (by rfl) gI FI.kp bI .nil pass0 (pa_cons (pv 1) (pa_cons (pv 2) (pa_cons (pv 5) pa_nil)))) (pa_cons (pe_callK0 GI hr (by rfl) gI FI.kp kI pass0 (pk_cons (pv 5) (pk_cons (pv 2) (pk_cons (pv 1) pk_nil)))) pa_nil))))
        (pss_cons (ps_if (pt_not (pt_val (pe_call GE hr (by rfl) gE FE.kp bE .nil pass0 (pa_cons (pv 7) (pa_cons (pe_lst (pa_cons (pv 6) (pa_cons (pv 6) pa_nil))) pa_nil))))) (pss_one (ps_ret pe_bl)) pss_nil)
        (pss_one (ps_if (PW.pt (pw_and (pt_cmpR op_notN (pv 6) pe_non (nomark _)) (pw_and1 (pt_not (pt_val (pe_call GE hr (by rfl) gE FE.kp bE .nil pass0 (pa_cons (pe_call GI hr (by rfl) gI FI.kp bI .nil pass0 (pa_cons (pv 1) (pa_cons (pe_ix ix_list (pv 7) pe_int (fun _ _ => rfl)) (pa_cons (pv 5) pa_nil)))) (pa_cons (pv 6) pa_nil)))))))) (pss_one (ps_ret pe_bl)) pss_nil))))))
        (pss_one (ps_ret (pe_cmpR op_eq (pe_callB (call_reprD hgd (hu65 hr)) (by rfl) mre (by decide +kernel) (pa_cons (pv 2) pa_nil)) (pv 3) (nomark _))))))), ?_⟩
    obtain ⟨ea, rfl⟩ := Th.ref hev
    obtain ⟨k1, k2, k3, k4⟩ := repr_th hfo hok
    refine ⟨.ref ea, rfl, ea, dTh e, rfl, hev.dp, k1, k2, k3, k4, ?_⟩
    have hfv' : Rp H fv (.tuple (fs.map dP)) := hfv
    obtain ⟨fa, fxs, rfl, hfa, hfx⟩ := hfv'.tup_inv
    have hlen := hfx.length
    rw [List.length_map] at hlen
    refine ⟨.ref fa, rfl, fa, rfl, ⟨fxs, SqT.of hfa⟩, fun D nD => ?_⟩
    refine gen_lc (walk_tup (xs := fxs)) (fun _ => true) (fun i => dW (fs.getD i (Str.empty, [])).2) (fun _ => imm_dW _) nD (by omega) (fun H3 s3 => SqT.of (s3 _ _ hfa)) (fun i x H3 H4 Qy Qn hi s3 y hy hn => ?_) (fun H1 ts s1 d1 r1 => ?_)
    · obtain ⟨rfl, fx⟩ := y
      obtain ⟨d, hd, hr0⟩ := hfx.get fx
      have hif : i < fs.length := by omega
      rw [List.getElem?_map, List.getElem?_eq_getElem hif] at hd
      cases hd
      obtain ⟨b, u, rfl, hb, hu⟩ := (hr0.same s3).dP_inv
      simp only [getD_lt (Str.empty, []) hif] at hy
      exact ⟨b, _, rfl, SqT.of hb, rfl, _, _, rfl, _, _, rfl, rfl, rfl, _, rfl, hy trivial u H4 (Same.refl _) hu⟩
    rw [hlen, range_pick (fun p : Str × List Str => dW p.2) (fun _ => true) (Str.empty, []), List.filter_eq_self.mpr (fun _ _ => rfl)] at r1
    have r1 : RpAll H1 ts ((fs.map (·.2)).map dW) := by
      rw [List.map_map]
      exact r1
    have hW : COk (fs.map (·.2)) := COk.of hfo (by omega)
    refine ⟨.ref D, fs.map (·.2), rfl, .lst d1 r1, hW, fun p H2 s2 np hp => ?_⟩
    obtain ⟨us, hp0, hp1⟩ := hp.lst_inv
    have hul := hp1.length
    rw [List.length_map] at hul
    have hfew := settings_few hW
    have s12 := Same.trans s1 s2
    refine ⟨.ref t, rfl, .ref p, rfl, .ref p, rfl, p, _, rfl, .inl (SqL.of hp0), 8, _, rfl, ?_⟩
    obtain ⟨m, hm8, hml, hmm⟩ : ∃ m : Nat, m ≤ 8 ∧ m ≤ us.length ∧ (if ((us.length : Nat) : Int) < 8 then ((us.length : Nat) : Int) else 8) = (m : Int) := by
      split
      · exact ⟨us.length, by omega, Nat.le_refl _, rfl⟩
      · exact ⟨8, Nat.le_refl _, by omega, rfl⟩
    rw [hmm]
    refine ⟨List Str, dW, _, t, p, us, m, n, rfl, .inr hp0, hp1, imm_dW, by omega, by omega, hT.same s12, by omega, fun pl H3 us3 ys rest x3 T3 npl epl rpl lys hperm => ⟨pl, rfl, ⟨us3, SqL.of epl⟩, ?_⟩⟩
    have kk := (hT.same s12).keepT x3
    have hF3 := (hfv.same s12).keep kk (imm_dF fs)
    have hE3 := (hev.same s12).keep kk (imm_dTh e)
    have hlp := rpl.length
    rw [List.length_map] at hlp
    refine for_it (walk_list (xs := us3)) (fun i σ G => ∃ (y5 y6 y7 : Option V), σ = [some (.ref t), some (.ref fa), some (.ref ea), some (.str (dTh e).shown), some (.ref p), y5, y6, y7, none, none] ∧ Same H3 G) ⟨none, none, none, rfl, Same.refl _⟩ ?_ ?_ ?_
    · rintro i σ G _ ⟨y5, y6, y7, rfl, sG⟩
      exact SqL.of (sG _ _ epl)
    · rintro i x σ G0 G hi ⟨y5, y6, y7, rfl, sG⟩ ⟨rfl, fx⟩
      obtain ⟨dd, hdd, hx0⟩ := rpl.get fx
      have hiy : i < ys.length := by omega
      rw [List.getElem?_map, List.getElem?_eq_getElem hiy] at hdd
      cases hdd
      have hmem : ys[i] ∈ settingsM (fs.map (·.2)) := hperm.mem_iff.mp (List.mem_append.mpr (.inl (List.getElem_mem hiy)))
      have hsl : ys[i].length = fs.length := by
        have := settings_len hmem
        rw [List.length_map] at this
        exact this
      have hx := hx0.same sG
      have hF := hF3.same sG
      have hE := hE3.same sG
      generalize ys[i] = s at *
      refine ⟨.ref fa, rfl, .ref ea, rfl, x, rfl, .ref fa, .ref ea, x, fs, e, s, rfl, hF, hE, hx, hok, hel, hsl, by omega, fun dv H4 s4 hd4 => ?_⟩
      refine ⟨.ref fa, rfl, .ref ea, rfl, x, rfl, .ref fa, .ref ea, x, fs, e, s, rfl, hF.same s4, hE.same s4, hx.same s4, hok, hel, hsl, by omega, fun v1 H5 s5 hd5 => ?_⟩
      have s45 := Same.trans s4 s5
      refine ⟨x, rfl, .ref ea, rfl, .ref fa, rfl, .ref fa, .ref ea, x, fs, e, s, rfl, hF.same s45, hE.same s45, hx.same s45, hok, hel, hsl, by omega, fun v2 H6 s6 hd6 => ?_⟩
      have s46 := Same.trans s45 s6
      refine ⟨by show 2 ≤ sizeLine; decide, fun fl nfl => ?_⟩
      have s7 := same_upd (o := .lst [v1, v2]) nfl
      have efl : upd H6 fl (.lst [v1, v2]) fl = some (.lst [v1, v2]) := upd_same
      refine ⟨.ref fl, rfl, dv, rfl, dv, rfl, by show 2 ≤ sizeLine; decide, fun dl ndl => ?_⟩
      have s8 := same_upd (o := .lst [dv, dv]) ndl
      have edl : upd (upd H6 fl (.lst [v1, v2])) dl (.lst [dv, dv]) dl = some (.lst [dv, dv]) := upd_same
      have s78 := Same.trans s7 s8
      have s48 := Same.trans s46 s78
      have d1 := hd5.same (Same.trans s6 s78)
      have d2 := hd6.same s78
      have d0 := hd4.same (Same.trans s5 (Same.trans s6 s78))
      have efl8 := s8 _ _ efl
      generalize upd (upd H6 fl (.lst [v1, v2])) dl (.lst [dv, dv]) = H8 at *
      have hlo : ∀ u, leftN fs s 3 e = some u → TOk fs 3 u ∧ IsEl u := fun u hu => ⟨(leftN_ok hok hu).1, (leftN_ok hok hu).2 hel⟩
      have hid : ∀ u, leftN fs s 3 e = some u → leftN fs s 3 u = some u := fun u hu => leftN_idem hu
      have hfit : Fit 10 (.list [dTo (leftN fs s 3 e), dTo (leftN fs s 3 e)]) := by
        have h1 : Fit 9 (dTo (leftN fs s 3 e)) := by
          cases ho : leftN fs s 3 e with
          | none => exact trivial
          | some u => exact fit_th hfo (hlo u ho).1 (by decide)
        refine ⟨by show 2 ≤ 1000; decide, fun d hd => ?_⟩
        simp only [List.mem_cons, List.not_mem_nil, or_false, or_self] at hd
        rw [hd]
        exact h1
      refine ⟨.ref fl, .ref dl, _, rfl, .lst efl8 (.cons d1 (.cons d2 .nil)), .lst edl (.cons d0 (.cons d0 .nil)), hfit, fun H9 s9 => ⟨_, rfl, ?_⟩⟩
      clear hfit
      have s49 := Same.trans s48 s9
      generalize leftN fs s 3 e = o at *
      cases o with
      | none =>
        have : dv = .non := by
          have d0 : Rp H8 dv .none := d0
          cases d0
          rfl
        subst this
        exact ⟨.non, rfl, rfl, _, rfl, _, _, _, rfl, Same.trans sG s49⟩
      | some u =>
        have d0 : Rp H8 dv (dTh u) := d0
        have d1 : Rp H8 v1 (dTh u) := d1
        obtain ⟨g, rfl⟩ := Th.ref d0
        refine ⟨.ref g, rfl, rfl, _, rfl, ?_⟩
        refine ⟨.ref fa, rfl, .ref fl, rfl, fl, _, 0, v1, rfl, rfl, SqL.of (s9 _ _ efl8), rfl, x, rfl, .ref fa, v1, x, fs, u, s, rfl, hF.same s49, d1.same s9, hx.same s49, (hlo u rfl).1, (hlo u rfl).2, hsl, by omega, fun v3 HA sA hd3 => ?_⟩
        rw [hid u rfl] at hd3
        refine ⟨.ref g, rfl, v3, .ref g, dTh u, rfl, hd3, d0.same (Same.trans s9 sA), fit_th hfo (hlo u rfl).1 (by decide), fun HB sB => ⟨_, rfl, ?_⟩⟩
        exact ⟨_, _, _, rfl, Same.trans sG (Same.trans s49 (Same.trans sA sB))⟩
    · rintro σ G ⟨y5, y6, y7, rfl, sG⟩
      refine ⟨.ref ea, rfl, ea, dTh e, rfl, (hE3.same sG).dp, k1, k2, k3, k4, .str (dTh e).shown, rfl, rfl, ?_⟩
      rw [show decide (V.str (dTh e).shown = V.str (dTh e).shown) = true from decide_eq_true rfl]
      exact q _ ((Same.ex s12).trans (x3.trans (Same.ex sG))) ((T3.same sG).mono (by omega))

end
end Sg

namespace Sg
open PySem PySem.Spec PyProof.Rows L2
abbrev sLaw : Stmt := topS 25
abbrev nLaw : List Str := ["_law_script", "_law_cells", "_law_k", "_law_tape_here", "_law_w", "_law_again"]
theorem scLaw : FnScope nLaw ["_law_script"] (defScope sLaw) := ⟨rfl, rfl, rfl, by decide +kernel, rfl, by decide +kernel, by decide +kernel⟩
theorem sqL_up {K : PySem.W.Frag} {H H' : Hp} {a : Addr} {xs : List V} (h : SqL K H a xs) (e : Same H H') : SqL K H' a xs :=
  h.elim (fun h => .inl (h.elim (fun h => .inl (e _ _ h)) fun ⟨o, h⟩ => .inr ⟨o, e _ _ h⟩)) fun h => .inr h
theorem ints_dp {K : PySem.W.Frag} {H : Hp} : ∀ ns : List Int, DpAll K H (ns.map V.int) (ns.map PyData.int)
  | [] => .nil
  | n :: ns => .cons (.int n) (ints_dp ns)
section
variable {P : Program} {w : World} {K : PySem.W.Frag} {mg : Str → Option Value} {base : Heap}
def spLaw (K : PySem.W.Frag) : Sp := fun vs H Q _ => ∃ (a : Addr) (ns : List Int), vs = [.ref a] ∧ SqL K H a (ns.map V.int) ∧ ns.length ≤ 63 ∧ ∀ H', Q (.bl true) H'
theorem ok_law {f fO fT fC fM fR : Addr} {fd fdO fdT fdC fdM fdR : FuncData} (F : Fun K "law" "law" sLaw f fd)
    (FO : Fun K "_law_folded" "_law_folded" sFolded fO fdO) (bO : Binds K fdO ["_law_script", "_law_many"] []) (gO : mg "_law_folded" = some (.ref fO)) (GO : FnOk P w K mg base CX0 12 fO fdO ["_law_script", "_law_many"] (spFolded K))
    (FT : Fun K "_law_tape" "_law_tape" sTape fT fdT) (bT : Binds K fdT ["_law_script", "_law_k"] []) (gT : mg "_law_tape" = some (.ref fT)) (GT : FnOk P w K mg base CX0 12 fT fdT ["_law_script", "_law_k"] (spTape K))
    (FC : Fun K "_law_cast" "_law_cast" sCast fC fdC) (bC : Binds K fdC ["_law_tape_here"] []) (gC : mg "_law_cast" = some (.ref fC)) (GC : FnOk P w K mg base CX0 12 fC fdC ["_law_tape_here"] spCast)
    (FM : Fun K "_law_made_of" "_law_made_of" sMade fM fdM) (bM : Binds K fdM ["_law_tape_here", "_law_w", "_law_deep"] []) (gM : mg "_law_made_of" = some (.ref fM)) (GM : FnOk P w K mg base CX0 12 fM fdM ["_law_tape_here", "_law_w", "_law_deep"] (spMade 3))
    (FR : Fun K "_law_right" "_law_right" sRight fR fdR) (bR : Binds K fdR ["_law_tape_here", "_law_sides", "_law_a_element"] []) (gR : mg "_law_right" = some (.ref fR)) (GR : FnG P w K mg base 12 fR fdR ["_law_tape_here", "_law_sides", "_law_a_element"] spRight)
    (ml : mg "len" = none) (mr : mg "range" = none) (ma : mg "all" = none) : FnG P w K mg base 13 f fd ["_law_script"] (spLaw K) := by
  refine okG F scLaw (fun vs H Q E h => ?_) (fun cdv A outer s H vs Q E hgd hr h => ?_)
  · obtain ⟨a, ns, rfl, _⟩ := h
    rfl
  · obtain ⟨a, ns, rfl, hS, hn, q⟩ := h
    refine ⟨_, (_root_.C8.pss_cut (ps_set (i := 1) scLaw.nd rfl (.inl rfl) (pe_ifExp (pt_cmpR (op_neD hr.units) (pv 0) (pe_lst pa_nil) (nomark _)) (pe_call GO hr (by rfl) gO FO.kp bO .nil pass0 (pa_cons (pv 0) (pa_cons pe_int pa_nil))) (pe_lst (pa_cons pe_int pa_nil))))
        (pss_cons (ps_for PassesOwn.never rfl (pi_range1 rfl mr (pa_cons (pe_callB call_len_seq (by rfl) ml PySem.boot_len (pa_cons (pv 1) pa_nil)) pa_nil)) (pg_name (i := 2) scLaw.nd rfl (.inl rfl))
        (pss_cons (ps_set (i := 3) scLaw.nd rfl (.inr rfl) (pe_call GT hr (by rfl) gT FT.kp bT .nil pass0 (pa_cons (pv 1) (pa_cons (pv 2) pa_nil))))
        (pss_cons (ps_set (i := 4) scLaw.nd rfl (.inr rfl) (pe_call GC hr (by rfl) gC FC.kp bC .nil pass0 (pa_cons (pv 3) pa_nil)))
        (pss_one (ps_if (pt_not (pt_val (pe_callB (cr_all rfl) (by rfl) ma (by decide +kernel) (pa_cons (pe_lc (own := [("_law_again", 5)]) (g := gName 5) (tt := tYes) (te := tCall spRight [] E0 (tCons (tVar 3) (tCons (tDGet (tVar 4) (tC (.str (Str.ofString "facets")))) (tCons (tCall (spMade 3) [] E0 (tCons (tVar 3) (tCons (tVar 4) (tCons (tC (.int 3)) tNil)))) tNil)))) rfl scLaw.nd (pi_range1 rfl mr (pa_cons pe_int pa_nil)) (blkOk_by (N := nLaw) (sc := defScope sLaw) (by decide +kernel)) (fun _ _ _ _ _ => pg_name (i := 5) scLaw.nd rfl (.inl rfl)) (fun _ _ _ _ _ => pts_nil) (fun _ _ _ _ _ => (pe_callG GR hgd hr (by rfl) gR FR.kp bR (pa_cons (pv 3) (pa_cons (pe_dget (hu1 hr) (pv 4) pe_str (fun _ _ => rfl)) (pa_cons (pe_call GM hr (by rfl) gM FM.kp bM .nil pass0 (pa_cons (pv 3) (pa_cons (pv 4) (pa_cons pe_int pa_nil)))) pa_nil)))))) pa_nil)))) (pss_one (ps_ret pe_bl)) pss_nil)))))
        (pss_one (ps_ret pe_bl)))), ?_⟩
    refine ⟨fun σ G => ∃ (c : Addr) (ms : List Int), σ = [some (.ref a), some (.ref c), none, none, none, none] ∧ G c = some (.lst (ms.map V.int)) ∧ ms.length ≤ 4, ?_, ?_⟩
    · refine ⟨.ref a, rfl, Nat.zero_le _, fun z nz => ?_⟩
      have s0 : Same H (upd H z (.lst [])) := same_upd nz
      have hS0 : SqL K (upd H z (.lst [])) a (ns.map V.int) := sqL_up hS s0
      have hsh : SeqAt.shaped (.list (ns.map PyData.int)) = true := by
        refine shaped_of (canLayAll_map (f := PyData.int) fun _ _ => rfl) ?_
        show PyData.depthAll (ns.map .int) + 1 ≤ 64
        have := depthAll_map (k := 0) (f := PyData.int) (xs := ns) fun _ _ => Nat.le_refl _
        omega
      refine ⟨.list (ns.map PyData.int), .list [], .lst hS0 (ints_dp ns), Rp.dp (.lst upd_same .nil), hsh, by decide, _, rfl, ite2 (fun _ => ?_) (fun _ => ?_)⟩
      · exact ⟨.ref a, rfl, a, 4, ns, rfl, hS0, by decide, by decide, hn, fun c H1 ms s1 nc ec lc => ⟨c, ms, rfl, ec, by omega⟩⟩
      · exact ⟨by show 1 ≤ sizeLine; decide, fun c nc => ⟨c, [0], rfl, upd_same, by decide⟩⟩
    rintro σ0 H1 ⟨c, ms, rfl, ec, hlm⟩
    have hlm' : (ms.map V.int).length ≤ 4 := by
      rw [List.length_map]
      exact hlm
    refine ⟨.ref c, rfl, c, _, rfl, .inl (SqL.of ec), _, rfl, by omega, by omega, ?_⟩
    refine for_it (walk_range (lo := 0)) (fun i σ G => ∃ (y2 y3 y4 : Option V), σ = [some (.ref a), some (.ref c), y2, y3, y4, none] ∧ Same H1 G) ⟨none, none, none, rfl, Same.refl H1⟩ (fun _ _ _ _ _ => trivial) ?_ ?_
    · rintro i v σ G0 G hi ⟨y2, y3, y4, rfl, sG⟩ ⟨rfl, rfl⟩
      have e0 : (0 : Int) + (i : Nat) = (i : Nat) := Int.zero_add _
      refine ⟨.ref c, rfl, .int (0 + (i : Nat)), rfl, c, i, ms, by rw [e0]; rfl, SqL.of (sG _ _ ec), by omega, fun t H5 s5 nt T5 => ?_⟩
      refine ⟨.ref t, rfl, t, 0, rfl, T5, by decide, fun w' H6 C kvs fv x6 T6 nw C6 hO => ?_⟩
      refine ⟨3, rfl, by decide, by decide, fun D nD => ?_⟩
      have nDt := T6.ne_none nD
      have hm3 : mb 3 = 8400 := rfl
      refine lc_it (walk_range (lo := 0) (n := 3)) (fun j G' => Ex t H6 G' ∧ TapeAt G' t (200 + 9000 * j) ∧ G' D = some (.lst ((List.replicate j true).map V.bl))) ⟨Same.ex (same_upd nD), T6.upd nDt, upd_same⟩ (fun _ _ _ _ => trivial) ?_ ?_
      · rintro j x G1 G' hj ⟨xG, TG, dG⟩ ⟨rfl, rfl⟩
        have CG := C6.ex T6 xG
        refine ⟨rfl, .ref t, rfl, .ref w', rfl, w', fv, rfl, ?_, .ref t, rfl, .ref w', rfl, t, w', 3, 200 + 9000 * j, C, kvs, fv, rfl, by decide, by decide, CG, hO, TG, by omega, fun ev H7 e x7 T7 he hok hel => ?_⟩
        · have := DGet.k (k := ky "facets") CG.dw
          rw [CG.vf] at this
          exact this
        · have C7 := CG.ex TG x7
          refine ⟨t, fv, ev, C.fs, e, _, rfl, C7.rf, he, hO.fok, hO.f1, hO.f3, hok, hel, T7, by omega, fun H8 x8 T8 => ?_⟩
          have d8 := x8 _ _ nDt (x7 _ _ nDt dG)
          refine ⟨_, d8, small1000 (by rw [List.length_map, List.length_replicate]; omega), (xG.trans (x7.trans x8)).upd_free nD, (T8.upd nDt).mono (by omega), ?_⟩
          rw [upd_same, List.replicate_succ', List.map_append]
          rfl
      · rintro G' ⟨xG, TG, dG⟩
        refine ⟨D, _, rfl, SqL.of dG, ?_⟩
        rw [all_true]
        refine ⟨_, rfl, _, _, _, rfl, fun b o e => ?_⟩
        have hb : b ≠ t := fun z => by
          subst z
          rw [sG.free nt] at e
          cases e
        exact xG b o hb (x6 b o hb (s5 b o (sG b o e)))
    · rintro σ G ⟨y2, y3, y4, rfl, sG⟩
      exact q _
end

theorem all_mk {l : PySem.W.OpenLaw} {w : World} {K : PySem.W.Frag} {h : Heap} {mg : Str → Option Value} {fa aW f1 f2 f3 f4 f5 f6 f7 f8 f9 f10 f11 f12 f13 f14 f15 f16 f17 f18 f19 f20 f21 f22 : Addr} (X : K.In h) (G : h.Ns mainGlobals mg) (hfa : mg "law" = some (.ref fa))
    {odW od1 an1 od2 an2 od3 an3 od4 an4 od5 an5 od6 an6 od7 an7 od8 an8 od9 an9 od10 an10 od11 an11 od12 an12 od13 an13 od14 an14 od15 an15 od16 an16 od17 an17 od18 an18 od19 an19 od20 an20 od21 an21 od22 an22 : Option Addr} {slW sl1 sl2 sl3 sl4 sl5 sl6 sl7 sl8 sl9 sl10 sl11 sl12 sl13 sl14 sl15 sl16 sl17 sl18 sl19 sl20 sl21 sl22 : Array (Option Value)} {nW : Nat} {tk1 tk2 tk3 tk4 : Tok} {oc1 kV1 dc1 pm1 cd1 ct1 oc2 kV2 dc2 pm2 cd2 ct2 oc3 kV3 dc3 pm3 cd3 ct3 oc4 kV4 dc4 pm4 cd4 ct4 oc5 kV5 dc5 pm5 cd5 ct5 oc6 kV6 dc6 pm6 cd6 ct6 oc7 kV7 dc7 pm7 cd7 ct7 oc8 kV8 dc8 pm8 cd8 ct8 oc9 kV9 dc9 pm9 cd9 ct9 oc10 kV10 dc10 pm10 cd10 ct10 oc11 kV11 dc11 pm11 cd11 ct11 oc12 kV12 dc12 pm12 cd12 ct12 oc13 kV13 dc13 pm13 cd13 ct13 oc14 kV14 dc14 pm14 cd14 ct14 oc15 kV15 dc15 pm15 cd15 ct15 oc16 kV16 dc16 pm16 cd16 ct16 oc17 kV17 dc17 pm17 cd17 ct17 oc18 kV18 dc18 pm18 cd18 ct18 oc19 kV19 dc19 pm19 cd19 ct19 oc20 kV20 dc20 pm20 cd20 ct20 oc21 kV21 dc21 pm21 cd21 ct21 oc22 kV22 dc22 pm22 cd22 ct22 : Value}
    (a1 : PySem.W.nsIn K mainGlobals "place_of" = some (some (.ref f1))) (l1 : K.lookup f1 = some ⟨oc1, od1, .func (PySem.W.fnOf "place_of" "place_of" (defArgs sPlace) (defBody sPlace) (defScope sPlace) .none kV1 dc1 pm1 an1 cd1 ct1), sl1⟩) (c1 : PySem.W.codeIn K cd1 "place_of" = true) (k1 : PySem.W.keepIn K (.ref f1) = true)
    (a2 : PySem.W.nsIn K mainGlobals "holds" = some (some (.ref f2))) (l2 : K.lookup f2 = some ⟨oc2, od2, .func (PySem.W.fnOf "holds" "holds" (defArgs sHolds) (defBody sHolds) (defScope sHolds) .none kV2 dc2 pm2 an2 cd2 ct2), sl2⟩) (c2 : PySem.W.codeIn K cd2 "holds" = true) (k2 : PySem.W.keepIn K (.ref f2) = true)
    (a3 : PySem.W.nsIn K mainGlobals "left_in" = some (some (.ref f3))) (l3 : K.lookup f3 = some ⟨oc3, od3, .func (PySem.W.fnOf "left_in" "left_in" (defArgs sLeft) (defBody sLeft) (defScope sLeft) .none kV3 dc3 pm3 an3 cd3 ct3), sl3⟩) (c3 : PySem.W.codeIn K cd3 "left_in" = true) (k3 : PySem.W.keepIn K (.ref f3) = true)
    (a4 : PySem.W.nsIn K mainGlobals "_law_tape" = some (some (.ref f4))) (l4 : K.lookup f4 = some ⟨oc4, od4, .func (PySem.W.fnOf "_law_tape" "_law_tape" (defArgs sTape) (defBody sTape) (defScope sTape) .none kV4 dc4 pm4 an4 cd4 ct4), sl4⟩) (c4 : PySem.W.codeIn K cd4 "_law_tape" = true) (k4 : PySem.W.keepIn K (.ref f4) = true)
    (a5 : PySem.W.nsIn K mainGlobals "_law_draw" = some (some (.ref f5))) (l5 : K.lookup f5 = some ⟨oc5, od5, .func (PySem.W.fnOf "_law_draw" "_law_draw" (defArgs sDraw) (defBody sDraw) (defScope sDraw) .none kV5 dc5 pm5 an5 cd5 ct5), sl5⟩) (c5 : PySem.W.codeIn K cd5 "_law_draw" = true) (k5 : PySem.W.keepIn K (.ref f5) = true)
    (a6 : PySem.W.nsIn K mainGlobals "_law_folded" = some (some (.ref f6))) (l6 : K.lookup f6 = some ⟨oc6, od6, .func (PySem.W.fnOf "_law_folded" "_law_folded" (defArgs sFolded) (defBody sFolded) (defScope sFolded) .none kV6 dc6 pm6 an6 cd6 ct6), sl6⟩) (c6 : PySem.W.codeIn K cd6 "_law_folded" = true) (k6 : PySem.W.keepIn K (.ref f6) = true)
    (a7 : PySem.W.nsIn K mainGlobals "_law_names" = some (some (.ref f7))) (l7 : K.lookup f7 = some ⟨oc7, od7, .func (PySem.W.fnOf "_law_names" "_law_names" (defArgs sNames) (defBody sNames) (defScope sNames) .none kV7 dc7 pm7 an7 cd7 ct7), sl7⟩) (c7 : PySem.W.codeIn K cd7 "_law_names" = true) (k7 : PySem.W.keepIn K (.ref f7) = true)
    (a8 : PySem.W.nsIn K mainGlobals "_law_part" = some (some (.ref f8))) (l8 : K.lookup f8 = some ⟨oc8, od8, .func (PySem.W.fnOf "_law_part" "_law_part" (defArgs sPart) (defBody sPart) (defScope sPart) .none kV8 dc8 pm8 an8 cd8 ct8), sl8⟩) (c8 : PySem.W.codeIn K cd8 "_law_part" = true) (k8 : PySem.W.keepIn K (.ref f8) = true)
    (a9 : PySem.W.nsIn K mainGlobals "_law_kind_names" = some (some (.ref f9))) (l9 : K.lookup f9 = some ⟨oc9, od9, .func (PySem.W.fnOf "_law_kind_names" "_law_kind_names" (defArgs sKinds) (defBody sKinds) (defScope sKinds) .none kV9 dc9 pm9 an9 cd9 ct9), sl9⟩) (c9 : PySem.W.codeIn K cd9 "_law_kind_names" = true) (k9 : PySem.W.keepIn K (.ref f9) = true)
    (a10 : PySem.W.nsIn K mainGlobals "_law_facets" = some (some (.ref f10))) (l10 : K.lookup f10 = some ⟨oc10, od10, .func (PySem.W.fnOf "_law_facets" "_law_facets" (defArgs sFacets) (defBody sFacets) (defScope sFacets) .none kV10 dc10 pm10 an10 cd10 ct10), sl10⟩) (c10 : PySem.W.codeIn K cd10 "_law_facets" = true) (k10 : PySem.W.keepIn K (.ref f10) = true)
    (a11 : PySem.W.nsIn K mainGlobals "_law_settings" = some (some (.ref f11))) (l11 : K.lookup f11 = some ⟨oc11, od11, .func (PySem.W.fnOf "_law_settings" "_law_settings" (defArgs sLSettings) (defBody sLSettings) (defScope sLSettings) .none kV11 dc11 pm11 an11 cd11 ct11), sl11⟩) (c11 : PySem.W.codeIn K cd11 "_law_settings" = true) (k11 : PySem.W.keepIn K (.ref f11) = true)
    (a12 : PySem.W.nsIn K mainGlobals "_law_when" = some (some (.ref f12))) (l12 : K.lookup f12 = some ⟨oc12, od12, .func (PySem.W.fnOf "_law_when" "_law_when" (defArgs sWhen) (defBody sWhen) (defScope sWhen) .none kV12 dc12 pm12 an12 cd12 ct12), sl12⟩) (c12 : PySem.W.codeIn K cd12 "_law_when" = true) (k12 : PySem.W.keepIn K (.ref f12) = true)
    (a13 : PySem.W.nsIn K mainGlobals "_law_text" = some (some (.ref f13))) (l13 : K.lookup f13 = some ⟨oc13, od13, .func (PySem.W.fnOf "_law_text" "_law_text" (defArgs sText) (defBody sText) (defScope sText) .none kV13 dc13 pm13 an13 cd13 ct13), sl13⟩) (c13 : PySem.W.codeIn K cd13 "_law_text" = true) (k13 : PySem.W.keepIn K (.ref f13) = true)
    (a14 : PySem.W.nsIn K mainGlobals "_law_cast" = some (some (.ref f14))) (l14 : K.lookup f14 = some ⟨oc14, od14, .func (PySem.W.fnOf "_law_cast" "_law_cast" (defArgs sCast) (defBody sCast) (defScope sCast) .none kV14 dc14 pm14 an14 cd14 ct14), sl14⟩) (c14 : PySem.W.codeIn K cd14 "_law_cast" = true) (k14 : PySem.W.keepIn K (.ref f14) = true)
    (a15 : PySem.W.nsIn K mainGlobals "_law_inline" = some (some (.ref f15))) (l15 : K.lookup f15 = some ⟨oc15, od15, .func (PySem.W.fnOf "_law_inline" "_law_inline" (defArgs sInl) (defBody sInl) (defScope sInl) .none kV15 dc15 pm15 an15 cd15 ct15), sl15⟩) (c15 : PySem.W.codeIn K cd15 "_law_inline" = true) (k15 : PySem.W.keepIn K (.ref f15) = true)
    (a16 : PySem.W.nsIn K mainGlobals "_law_same" = some (some (.ref f16))) (l16 : K.lookup f16 = some ⟨oc16, od16, .func (PySem.W.fnOf "_law_same" "_law_same" (defArgs sSame) (defBody sSame) (defScope sSame) .none kV16 dc16 pm16 an16 cd16 ct16), sl16⟩) (c16 : PySem.W.codeIn K cd16 "_law_same" = true) (k16 : PySem.W.keepIn K (.ref f16) = true)
    (a17 : PySem.W.nsIn K mainGlobals "_law_is_element" = some (some (.ref f17))) (l17 : K.lookup f17 = some ⟨oc17, od17, .func (PySem.W.fnOf "_law_is_element" "_law_is_element" (defArgs sIsEl) (defBody sIsEl) (defScope sIsEl) .none kV17 dc17 pm17 an17 cd17 ct17), sl17⟩) (c17 : PySem.W.codeIn K cd17 "_law_is_element" = true) (k17 : PySem.W.keepIn K (.ref f17) = true)
    (a18 : PySem.W.nsIn K mainGlobals "_law_holds" = some (some (.ref f18))) (l18 : K.lookup f18 = some ⟨oc18, od18, .func (PySem.W.fnOf "_law_holds" "_law_holds" (defArgs sLHolds) (defBody sLHolds) (defScope sLHolds) .none kV18 dc18 pm18 an18 cd18 ct18), sl18⟩) (c18 : PySem.W.codeIn K cd18 "_law_holds" = true) (k18 : PySem.W.keepIn K (.ref f18) = true)
    (a19 : PySem.W.nsIn K mainGlobals "_law_left_in" = some (some (.ref f19))) (l19 : K.lookup f19 = some ⟨oc19, od19, .func (PySem.W.fnOf "_law_left_in" "_law_left_in" (defArgs sLLeft) (defBody sLLeft) (defScope sLLeft) .none kV19 dc19 pm19 an19 cd19 ct19), sl19⟩) (c19 : PySem.W.codeIn K cd19 "_law_left_in" = true) (k19 : PySem.W.keepIn K (.ref f19) = true)
    (a20 : PySem.W.nsIn K mainGlobals "_law_made_of" = some (some (.ref f20))) (l20 : K.lookup f20 = some ⟨oc20, od20, .func (PySem.W.fnOf "_law_made_of" "_law_made_of" (defArgs sMade) (defBody sMade) (defScope sMade) .none kV20 dc20 pm20 an20 cd20 ct20), sl20⟩) (c20 : PySem.W.codeIn K cd20 "_law_made_of" = true) (k20 : PySem.W.keepIn K (.ref f20) = true)
    (a21 : PySem.W.nsIn K mainGlobals "_law_right" = some (some (.ref f21))) (l21 : K.lookup f21 = some ⟨oc21, od21, .func (PySem.W.fnOf "_law_right" "_law_right" (defArgs sRight) (defBody sRight) (defScope sRight) .none kV21 dc21 pm21 an21 cd21 ct21), sl21⟩) (c21 : PySem.W.codeIn K cd21 "_law_right" = true) (k21 : PySem.W.keepIn K (.ref f21) = true)
    (a22 : PySem.W.nsIn K mainGlobals "law" = some (some (.ref f22))) (l22 : K.lookup f22 = some ⟨oc22, od22, .func (PySem.W.fnOf "law" "law" (defArgs sLaw) (defBody sLaw) (defScope sLaw) .none kV22 dc22 pm22 an22 cd22 ct22), sl22⟩) (c22 : PySem.W.codeIn K cd22 "law" = true) (k22 : PySem.W.keepIn K (.ref f22) = true)
    (z1 : PySem.W.nsIn K mainGlobals "len" = some none)
    (z2 : PySem.W.nsIn K mainGlobals "abs" = some none)
    (z3 : PySem.W.nsIn K mainGlobals "int" = some none)
    (z4 : PySem.W.nsIn K mainGlobals "list" = some none)
    (z5 : PySem.W.nsIn K mainGlobals "enumerate" = some none)
    (z6 : PySem.W.nsIn K mainGlobals "range" = some none)
    (z7 : PySem.W.nsIn K mainGlobals "zip" = some none)
    (z8 : PySem.W.nsIn K mainGlobals "isinstance" = some none)
    (z9 : PySem.W.nsIn K mainGlobals "tuple" = some none)
    (z10 : PySem.W.nsIn K mainGlobals "all" = some none)
    (z11 : PySem.W.nsIn K mainGlobals "str" = some none)
    (z12 : PySem.W.nsIn K mainGlobals "bool" = some none)
    (z13 : PySem.W.nsIn K mainGlobals "sorted" = some none)
    (z14 : PySem.W.nsIn K mainGlobals "min" = some none)
    (z15 : PySem.W.nsIn K mainGlobals "repr" = some none)
    (zW : PySem.W.nsIn K mainGlobals "WORDS" = some (some (.ref aW))) (lW : K.lookup aW = some ⟨.type "tuple", odW, .seq #[.str (Str.ofString "text") tk1, .str (Str.ofString "ref") tk2, .str (Str.ofString "entry") tk3, .str (Str.ofString "put") tk4] nW, slW⟩) :
    ∃ fd : FuncData, (∀ (s : Shared) (v : Value), BindsTo s fd ⟨[v], []⟩ [("_law_script", v)]) ∧ ∀ base : Heap, K.In base → base.Ns mainGlobals mg → FnG l.prog w K mg base 13 fa fd ["_law_script"] (spLaw K) := by
  have e := hfa.symm.trans (PySem.W.mg_of X G a22)
  cases e
  have F1 := fun_mk (st := sPlace) l1 c1 k1
  have g1 := PySem.W.mg_of X G a1
  have b1 := F1.binds (ps := ["facets", "facet"]) fun _ _ _ _ _ _ us hl => match us, hl with | [_, _], _ => rfl
  have F2 := fun_mk (st := sHolds) l2 c2 k2
  have g2 := PySem.W.mg_of X G a2
  have b2 := F2.binds (ps := ["facets", "when", "setting"]) fun _ _ _ _ _ _ us hl => match us, hl with | [_, _, _], _ => rfl
  have F3 := fun_mk (st := sLeft) l3 c3 k3
  have g3 := PySem.W.mg_of X G a3
  have b3 := F3.binds (ps := ["facets", "element", "setting"]) fun _ _ _ _ _ _ us hl => match us, hl with | [_, _, _], _ => rfl
  have F4 := fun_mk (st := sTape) l4 c4 k4
  have g4 := PySem.W.mg_of X G a4
  have b4 := F4.binds (ps := ["_law_script", "_law_k"]) fun _ _ _ _ _ _ us hl => match us, hl with | [_, _], _ => rfl
  have F5 := fun_mk (st := sDraw) l5 c5 k5
  have g5 := PySem.W.mg_of X G a5
  have b5 := F5.binds (ps := ["_law_tape_here", "_law_many"]) fun _ _ _ _ _ _ us hl => match us, hl with | [_, _], _ => rfl
  have F6 := fun_mk (st := sFolded) l6 c6 k6
  have g6 := PySem.W.mg_of X G a6
  have b6 := F6.binds (ps := ["_law_script", "_law_many"]) fun _ _ _ _ _ _ us hl => match us, hl with | [_, _], _ => rfl
  have F7 := fun_mk (st := sNames) l7 c7 k7
  have g7 := PySem.W.mg_of X G a7
  have b7 := F7.binds (ps := ["_law_tape_here", "_law_many"]) fun _ _ _ _ _ _ us hl => match us, hl with | [_, _], _ => rfl
  have F8 := fun_mk (st := sPart) l8 c8 k8
  have g8 := PySem.W.mg_of X G a8
  have b8 := F8.binds (ps := ["_law_tape_here", "_law_some", "_law_many"]) fun _ _ _ _ _ _ us hl => match us, hl with | [_, _, _], _ => rfl
  have F9 := fun_mk (st := sKinds) l9 c9 k9
  have g9 := PySem.W.mg_of X G a9
  have b9 := F9.binds (ps := ["_law_tape_here", "_law_many"]) fun _ _ _ _ _ _ us hl => match us, hl with | [_, _], _ => rfl
  have F10 := fun_mk (st := sFacets) l10 c10 k10
  have g10 := PySem.W.mg_of X G a10
  have b10 := F10.binds (ps := ["_law_tape_here", "_law_many", "_law_most"]) fun _ _ _ _ _ _ us hl => match us, hl with | [_, _, _], _ => rfl
  have F11 := fun_mk (st := sLSettings) l11 c11 k11
  have g11 := PySem.W.mg_of X G a11
  have b11 := F11.binds (ps := ["_law_some"]) fun _ _ _ _ _ _ us hl => match us, hl with | [_], _ => rfl
  have F12 := fun_mk (st := sWhen) l12 c12 k12
  have g12 := PySem.W.mg_of X G a12
  have b12 := F12.binds (ps := ["_law_tape_here", "_law_its_facets", "_law_deep"]) fun _ _ _ _ _ _ us hl => match us, hl with | [_, _, _], _ => rfl
  have F13 := fun_mk (st := sText) l13 c13 k13
  have g13 := PySem.W.mg_of X G a13
  have b13 := F13.binds (ps := ["_law_tape_here", "_law_marks"]) fun _ _ _ _ _ _ us hl => match us, hl with | [_, _], _ => rfl
  have F14 := fun_mk (st := sCast) l14 c14 k14
  have g14 := PySem.W.mg_of X G a14
  have b14 := F14.binds (ps := ["_law_tape_here"]) fun _ _ _ _ _ _ us hl => match us, hl with | [_], _ => rfl
  have F15 := fun_mk (st := sInl) l15 c15 k15
  have g15 := PySem.W.mg_of X G a15
  have b15 := F15.binds (ps := ["_law_tape_here", "_law_w"]) fun _ _ _ _ _ _ us hl => match us, hl with | [_, _], _ => rfl
  have F16 := fun_mk (st := sSame) l16 c16 k16
  have g16 := PySem.W.mg_of X G a16
  have b16 := F16.binds (ps := ["_law_found", "_law_due"]) fun _ _ _ _ _ _ us hl => match us, hl with | [_, _], _ => rfl
  have F17 := fun_mk (st := sIsEl) l17 c17 k17
  have g17 := PySem.W.mg_of X G a17
  have b17 := F17.binds (ps := ["_law_thing"]) fun _ _ _ _ _ _ us hl => match us, hl with | [_], _ => rfl
  have F18 := fun_mk (st := sLHolds) l18 c18 k18
  have g18 := PySem.W.mg_of X G a18
  have b18 := F18.binds (ps := ["_law_a_facets", "_law_when_here", "_law_a_setting"]) fun _ _ _ _ _ _ us hl => match us, hl with | [_, _, _], _ => rfl
  have F19 := fun_mk (st := sLLeft) l19 c19 k19
  have g19 := PySem.W.mg_of X G a19
  have b19 := F19.binds (ps := ["_law_a_facets", "_law_a_element", "_law_a_setting"]) fun _ _ _ _ _ _ us hl => match us, hl with | [_, _, _], _ => rfl
  have F20 := fun_mk (st := sMade) l20 c20 k20
  have g20 := PySem.W.mg_of X G a20
  have b20 := F20.binds (ps := ["_law_tape_here", "_law_w", "_law_deep"]) fun _ _ _ _ _ _ us hl => match us, hl with | [_, _, _], _ => rfl
  have F21 := fun_mk (st := sRight) l21 c21 k21
  have g21 := PySem.W.mg_of X G a21
  have b21 := F21.binds (ps := ["_law_tape_here", "_law_sides", "_law_a_element"]) fun _ _ _ _ _ _ us hl => match us, hl with | [_, _, _], _ => rfl
  have F22 := fun_mk (st := sLaw) l22 c22 k22
  have g22 := PySem.W.mg_of X G a22
  have mlen := PySem.W.mg_none_of X G z1
  have mabs := PySem.W.mg_none_of X G z2
  have mint := PySem.W.mg_none_of X G z3
  have mlist := PySem.W.mg_none_of X G z4
  have menumerate := PySem.W.mg_none_of X G z5
  have mrange := PySem.W.mg_none_of X G z6
  have mzip := PySem.W.mg_none_of X G z7
  have misinstance := PySem.W.mg_none_of X G z8
  have mtuple := PySem.W.mg_none_of X G z9
  have mall := PySem.W.mg_none_of X G z10
  have mstr := PySem.W.mg_none_of X G z11
  have mbool := PySem.W.mg_none_of X G z12
  have msorted := PySem.W.mg_none_of X G z13
  have mmin := PySem.W.mg_none_of X G z14
  have mrepr := PySem.W.mg_none_of X G z15
  have mW := PySem.W.mg_of X G zW
  have hW : ∀ H, SqT K H aW (four.map V.str) := fun H => .inr ⟨_, _, _, lW, rfl, rfl, by show 4 ≤ sizeLine; decide, .cons ⟨_, rfl⟩ (.cons ⟨_, rfl⟩ (.cons ⟨_, rfl⟩ (.cons ⟨_, rfl⟩ .nil)))⟩
  have kI := kb_rev3 F3 (a := "facets") (b := "element") (c := "setting") fun _ _ _ _ _ _ _ _ _ => rfl
  refine ⟨PySem.W.fnOf "law" "law" (defArgs sLaw) (defBody sLaw) (defScope sLaw) .none kV22 dc22 pm22 an22 cd22 ct22, fun s v => .of_eq rfl, fun base _ _ => ?_⟩
  have GHo : ∀ k, FnOk l.prog w K mg base CX0 (k + 5) f2 _ ["facets", "when", "setting"] (spHolds 3) := fun k => (ok_holds F2 b2 g2 F1 b1 g1 3).mono (by omega)
  have GLh : ∀ k, FnOk l.prog w K mg base CX0 (k + 5) f18 _ ["_law_a_facets", "_law_when_here", "_law_a_setting"] (spHolds 3) := fun k => (ok_lholds F18 b18 g18 menumerate 3).mono (by omega)
  have GWn : ∀ k, FnOk l.prog w K mg base CX0 (k + 6) f12 _ ["_law_tape_here", "_law_its_facets", "_law_deep"] (spWhen 3) := fun k => (ok_when F12 b12 g12 F5 b5 g5 F8 b8 g8 mlen mrange mlist msorted mtuple mmin 3).mono (by omega)
  have GLe : FnOk l.prog w K mg base CX0 8 f3 _ ["facets", "element", "setting"] (spLeft 3) := ok_left F3 b3 g3 F2 b2 g2 GHo mW hW mtuple 3
  have GLl : FnOk l.prog w K mg base CX0 8 f19 _ ["_law_a_facets", "_law_a_element", "_law_a_setting"] (spLeft 3) := ok_lleft F19 b19 g19 F18 b18 g18 GLh F17 b17 g17 mtuple 3
  have GDr : ∀ k, FnOk l.prog w K mg base CX0 (k + 1) f5 _ ["_law_tape_here", "_law_many"] spDraw := fun k => ok_draw (k := k) F5
  have GIn : ∀ k, FnOk l.prog w K mg base CX0 (k + 6) f15 _ ["_law_tape_here", "_law_w"] spInl := fun k => ok_inl (k := k + 3) F15 F5 b5 g5 (GDr (k + 4)) F13 b13 g13 (ok_text (k := k + 3) F13 F5 b5 g5 mlen mrange)
  have GMd : FnOk l.prog w K mg base CX0 9 f20 _ ["_law_tape_here", "_law_w", "_law_deep"] (spMade 3) := ok_made F20 b20 g20 F5 b5 g5 (fun k => GDr (k + 5)) F12 b12 g12 GWn F15 b15 g15 GIn mrange mint mtuple 3
  have GNm : ∀ k, FnOk l.prog w K mg base CX0 (k + 2) f7 _ ["_law_tape_here", "_law_many"] spNames := fun k => ok_names (k := k) F7 F5 b5 g5 mlen mrange mint
  have GCt : FnOk l.prog w K mg base CX0 12 f14 _ ["_law_tape_here"] spCast := ok_cast (k := 7) F14 F5 b5 g5 (GDr 10) F7 b7 g7 (GNm 9) F9 b9 g9 (ok_kinds (k := 8) F9 F7 b7 g7 (GNm 8) mlen) F10 b10 g10 (ok_facets (k := 8) F10 F5 b5 g5 F7 b7 g7 mlen mrange mint msorted mtuple)
  have GR := ok_right F21 F11 b11 g11 (ok_lsettings (k := 10) F11) F8 b8 g8 (ok_part (k := 9) F8 F5 b5 g5 mlen mrange mlist) F19 b19 g19 (GLl.mono (by decide)) F3 b3 kI g3 (GLe.mono (by decide)) F16 b16 g16 (ok_same F16 b16 g16 misinstance mlist mtuple mlen mall mzip mstr mbool mint 11) mlen mmin mrepr
  exact ok_law F22 F6 b6 g6 (ok_folded (k := 11) F6 mlist menumerate) F4 b4 g4 (ok_tape (k := 11) F4 mlen mabs mint) F14 b14 g14 GCt F20 b20 g20 (GMd.mono (by decide)) F21 b21 g21 GR mlen mrange mall
end Sg

open PySem PySem.W PyProof.Rows
set_option maxRecDepth 100000 in
set_option maxHeartbeats 0 in
theorem PySem.Challenge.cw_sheafbooks_k30_what_is_left_holds : PySem.Challenge.rw_sheafbooks_k30_what_is_left.Holds := by
  w_on; o_law; k_head; (case hw => w_witness2)
  k_fill
  refine Sg.walk_G (l := PySem.Challenge.rw_sheafbooks_k30_what_is_left) (n := 63) (k := 13) (x := "_law_script") (sp := fun w => Sg.spLaw _) rfl (by decide) rfl ⟨rfl, by decide, by decide⟩ (fun w h Y => PySem.W.kIn_of Y) ?F (fun _ _ a ns hl hS => ⟨a, ns, rfl, hS, hl, fun _ => rfl⟩)
  case F =>
    intro w mg fa h KX G hmg
    refine' Sg.all_mk KX G hmg ?a1 ?l1 ?c1 ?k1 ?a2 ?l2 ?c2 ?k2 ?a3 ?l3 ?c3 ?k3 ?a4 ?l4 ?c4 ?k4 ?a5 ?l5 ?c5 ?k5 ?a6 ?l6 ?c6 ?k6 ?a7 ?l7 ?c7 ?k7 ?a8 ?l8 ?c8 ?k8 ?a9 ?l9 ?c9 ?k9 ?a10 ?l10 ?c10 ?k10 ?a11 ?l11 ?c11 ?k11 ?a12 ?l12 ?c12 ?k12 ?a13 ?l13 ?c13 ?k13 ?a14 ?l14 ?c14 ?k14 ?a15 ?l15 ?c15 ?k15 ?a16 ?l16 ?c16 ?k16 ?a17 ?l17 ?c17 ?k17 ?a18 ?l18 ?c18 ?k18 ?a19 ?l19 ?c19 ?k19 ?a20 ?l20 ?c20 ?k20 ?a21 ?l21 ?c21 ?k21 ?a22 ?l22 ?c22 ?k22 ?z1 ?z2 ?z3 ?z4 ?z5 ?z6 ?z7 ?z8 ?z9 ?z10 ?z11 ?z12 ?z13 ?z14 ?z15 ?zW ?lW
    (case a1 => k_is); (case l1 => k_is); (case c1 => k_is); (case k1 => k_is); (case a2 => k_is); (case l2 => k_is); (case c2 => k_is); (case k2 => k_is); (case a3 => k_is); (case l3 => k_is); (case c3 => k_is); (case k3 => k_is); (case a4 => k_is); (case l4 => k_is); (case c4 => k_is); (case k4 => k_is); (case a5 => k_is); (case l5 => k_is); (case c5 => k_is); (case k5 => k_is); (case a6 => k_is); (case l6 => k_is); (case c6 => k_is); (case k6 => k_is); (case a7 => k_is); (case l7 => k_is); (case c7 => k_is); (case k7 => k_is); (case a8 => k_is); (case l8 => k_is); (case c8 => k_is); (case k8 => k_is); (case a9 => k_is); (case l9 => k_is); (case c9 => k_is); (case k9 => k_is); (case a10 => k_is); (case l10 => k_is); (case c10 => k_is); (case k10 => k_is); (case a11 => k_is); (case l11 => k_is); (case c11 => k_is); (case k11 => k_is); (case a12 => k_is); (case l12 => k_is); (case c12 => k_is); (case k12 => k_is); (case a13 => k_is); (case l13 => k_is); (case c13 => k_is); (case k13 => k_is); (case a14 => k_is); (case l14 => k_is); (case c14 => k_is); (case k14 => k_is); (case a15 => k_is); (case l15 => k_is); (case c15 => k_is); (case k15 => k_is); (case a16 => k_is); (case l16 => k_is); (case c16 => k_is); (case k16 => k_is); (case a17 => k_is); (case l17 => k_is); (case c17 => k_is); (case k17 => k_is); (case a18 => k_is); (case l18 => k_is); (case c18 => k_is); (case k18 => k_is); (case a19 => k_is); (case l19 => k_is); (case c19 => k_is); (case k19 => k_is); (case a20 => k_is); (case l20 => k_is); (case c20 => k_is); (case k20 => k_is); (case a21 => k_is); (case l21 => k_is); (case c21 => k_is); (case k21 => k_is); (case a22 => k_is); (case l22 => k_is); (case c22 => k_is); (case k22 => k_is); (case z1 => k_is); (case z2 => k_is); (case z3 => k_is); (case z4 => k_is); (case z5 => k_is); (case z6 => k_is); (case z7 => k_is); (case z8 => k_is); (case z9 => k_is); (case z10 => k_is); (case z11 => k_is); (case z12 => k_is); (case z13 => k_is); (case z14 => k_is); (case z15 => k_is); (case zW => k_is); (case lW => k_is)

