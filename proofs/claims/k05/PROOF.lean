import PyProof.Rows.All
import Wide.All
import OpenK.AllK
import Wide.FinOn
import KE.GoesMore
import HandS.ForMost
import HandS.Walk
import HandS.Zip
import HandS.TupAny
import HandS.IsInst
import HandS.Deep
import HandS.Conv
import HandS.Style
import HandS.Flow
import HandS.Wide
import PyProof.EnumMake
import KE.DataFind
import PySem.Challenge.RW_sheafbooks_k05_where_whens_hold
set_option Elab.async false
set_option linter.all false
set_option maxRecDepth 100000
set_option maxHeartbeats 4000000
namespace Sg
open PySem PySem.Spec PyProof.Rows L2
/-! ### heaps -/
theorem same_upd {H : Hp} {p : Addr} {o : HO} (h : H p = none) : Same H (upd H p o) := fun b x e => by
  rw [upd_ne (ne_of_none e h)]
  exact e
/-- all but what stands at t is as it was -/
def Ex (t : Addr) (H H' : Hp) : Prop := ∀ a o, a ≠ t → H a = some o → H' a = some o
theorem Ex.refl (t : Addr) (H : Hp) : Ex t H H := fun _ _ _ h => h
theorem Ex.trans {t : Addr} {H H1 H2 : Hp} (a : Ex t H H1) (b : Ex t H1 H2) : Ex t H H2 := fun c o n h => b c o n (a c o n h)
theorem Same.ex {t : Addr} {H H' : Hp} (s : Same H H') : Ex t H H' := fun c o _ h => s c o h
theorem Ex.upd {t : Addr} {H H' : Hp} {o : HO} (s : Ex t H H') : Ex t H (upd H' t o) := fun c u n h => by
  rw [upd_ne n]
  exact s c u n h
theorem Ex.free {t : Addr} {H H' : Hp} (s : Ex t H H') {l : Addr} (hn : l ≠ t) (h : H' l = none) : H l = none := by
  cases q : H l with
  | none => rfl
  | some o =>
    rw [s l o hn q] at h
    cases h
/-- tuples stay -/
def KeepT (H H' : Hp) : Prop := ∀ a xs, H a = some (.tup xs) → H' a = some (.tup xs)
theorem Same.keepT {H H' : Hp} (s : Same H H') : KeepT H H' := fun a xs h => s a _ h
theorem KeepT.refl (H : Hp) : KeepT H H := fun _ _ h => h
theorem KeepT.trans {H H1 H2 : Hp} (a : KeepT H H1) (b : KeepT H1 H2) : KeepT H H2 := fun c o h => b c o (a c o h)
theorem Ex.keepT {t : Addr} {H H' : Hp} {ys : List V} (s : Ex t H H') (ht : H t = some (.lst ys)) : KeepT H H' := fun a xs h => by
  by_cases e : a = t
  · subst e
    rw [ht] at h
    cases h
  · exact s a _ e h
theorem keepT_lst {H : Hp} {l : Addr} {xs ys : List V} (h : H l = some (.lst xs)) : KeepT H (upd H l (.lst ys)) := fun a zs e => by
  rw [upd_ne (fun q => by subst q; rw [h] at e; cases e)]
  exact e
/-! ### data: tuples and lists of data -/
mutual
inductive Rp (H : Hp) : V → PyData → Prop
  | non : Rp H .non .none
  | bl (b : Bool) : Rp H (.bl b) (.bool b)
  | int (i : Int) : Rp H (.int i) (.int i)
  | str (x : Str) : Rp H (.str x) (.str x)
  | lst {a : Addr} {xs : List V} {ds : List PyData} : H a = some (.lst xs) → RpAll H xs ds → Rp H (.ref a) (.list ds)
  | tup {a : Addr} {xs : List V} {ds : List PyData} : H a = some (.tup xs) → RpAll H xs ds → Rp H (.ref a) (.tuple ds)
inductive RpAll (H : Hp) : List V → List PyData → Prop
  | nil : RpAll H [] []
  | cons {v : V} {vs : List V} {d : PyData} {ds : List PyData} : Rp H v d → RpAll H vs ds → RpAll H (v :: vs) (d :: ds)
end
mutual
theorem Rp.same {H H' : Hp} (s : Same H H') : ∀ {v : V} {d : PyData}, Rp H v d → Rp H' v d
  | _, _, .non => .non
  | _, _, .bl b => .bl b
  | _, _, .int i => .int i
  | _, _, .str x => .str x
  | _, _, .lst h hs => .lst (s _ _ h) (RpAll.same s hs)
  | _, _, .tup h hs => .tup (s _ _ h) (RpAll.same s hs)
theorem RpAll.same {H H' : Hp} (s : Same H H') : ∀ {vs : List V} {ds : List PyData}, RpAll H vs ds → RpAll H' vs ds
  | _, _, .nil => .nil
  | _, _, .cons h hs => .cons (Rp.same s h) (RpAll.same s hs)
end
mutual
theorem Rp.dp {K : PySem.W.Frag} {H : Hp} : ∀ {v : V} {d : PyData}, Rp H v d → Dp K H v d
  | _, _, .non => .non
  | _, _, .bl b => .bl b
  | _, _, .int i => .int i
  | _, _, .str x => .str x
  | _, _, .lst h hs => .lst (.inl (.inl h)) (RpAll.dp hs)
  | _, _, .tup h hs => .tup (.inl (.inl h)) (RpAll.dp hs)
theorem RpAll.dp {K : PySem.W.Frag} {H : Hp} : ∀ {vs : List V} {ds : List PyData}, RpAll H vs ds → DpAll K H vs ds
  | _, _, .nil => .nil
  | _, _, .cons h hs => .cons (Rp.dp h) (RpAll.dp hs)
end
/-! no list in it: it stays whatever lists become -/
mutual
def imm : PyData → Bool
  | .list _ => false
  | .tuple ds => immAll ds
  | _ => true
def immAll : List PyData → Bool
  | [] => true
  | d :: ds => imm d && immAll ds
end
mutual
theorem Rp.keep {H H' : Hp} (s : KeepT H H') : ∀ {v : V} {d : PyData}, Rp H v d → imm d = true → Rp H' v d
  | _, _, .non, _ => .non
  | _, _, .bl b, _ => .bl b
  | _, _, .int i, _ => .int i
  | _, _, .str x, _ => .str x
  | _, _, .lst h hs, e => by simp [imm] at e
  | _, _, .tup h hs, e => .tup (s _ _ h) (RpAll.keep s hs (by simpa [imm] using e))
theorem RpAll.keep {H H' : Hp} (s : KeepT H H') : ∀ {vs : List V} {ds : List PyData}, RpAll H vs ds → immAll ds = true → RpAll H' vs ds
  | _, _, .nil, _ => .nil
  | _, _, .cons h hs, e => by
    simp only [immAll, Bool.and_eq_true] at e
    exact .cons (Rp.keep s h e.1) (RpAll.keep s hs e.2)
end
theorem RpAll.length {H : Hp} : ∀ {vs : List V} {ds : List PyData}, RpAll H vs ds → vs.length = ds.length
  | _, _, .nil => rfl
  | _, _, .cons _ hs => by rw [List.length_cons, List.length_cons, RpAll.length hs]
theorem RpAll.get {H : Hp} : ∀ {vs : List V} {ds : List PyData} {i : Nat} {v : V}, RpAll H vs ds → vs[i]? = some v → ∃ d, ds[i]? = some d ∧ Rp H v d
  | _, _, _, _, .nil, e => by simp at e
  | _, _, 0, _, .cons h _, e => by simp at e; subst e; exact ⟨_, rfl, h⟩
  | _, _, i + 1, _, .cons _ hs, e => by
    rw [List.getElem?_cons_succ] at e
    rw [List.getElem?_cons_succ]
    exact RpAll.get hs e
theorem RpAll.getD {H : Hp} : ∀ {vs : List V} {ds : List PyData} {i : Nat} {d : PyData}, RpAll H vs ds → ds[i]? = some d → ∃ v, vs[i]? = some v ∧ Rp H v d
  | _, _, _, _, .nil, e => by simp at e
  | _, _, 0, _, .cons h _, e => by simp at e; subst e; exact ⟨_, rfl, h⟩
  | _, _, i + 1, _, .cons _ hs, e => by
    rw [List.getElem?_cons_succ] at e
    rw [List.getElem?_cons_succ]
    exact RpAll.getD hs e
theorem RpAll.append {H : Hp} : ∀ {vs ws : List V} {ds es : List PyData}, RpAll H vs ds → RpAll H ws es → RpAll H (vs ++ ws) (ds ++ es)
  | _, _, _, _, .nil, h => h
  | _, _, _, _, .cons h hs, h2 => .cons h (RpAll.append hs h2)
theorem RpAll.take {H : Hp} : ∀ {vs : List V} {ds : List PyData} (n : Nat), RpAll H vs ds → RpAll H (vs.take n) (ds.take n)
  | _, _, 0, _ => by rw [List.take_zero, List.take_zero]; exact .nil
  | _, _, n + 1, .nil => .nil
  | _, _, n + 1, .cons h hs => .cons h (RpAll.take n hs)
theorem RpAll.drop {H : Hp} : ∀ {vs : List V} {ds : List PyData} (n : Nat), RpAll H vs ds → RpAll H (vs.drop n) (ds.drop n)
  | _, _, 0, h => h
  | _, _, n + 1, .nil => .nil
  | _, _, n + 1, .cons h hs => RpAll.drop n hs
theorem RpAll.strs {H : Hp} : ∀ (ws : List Str), RpAll H (ws.map V.str) (ws.map PyData.str)
  | [] => .nil
  | w :: ws => .cons (.str w) (RpAll.strs ws)
theorem RpAll.strs_eq {H : Hp} : ∀ {vs : List V} {ws : List Str}, RpAll H vs (ws.map PyData.str) → vs = ws.map V.str
  | _, [], .nil => rfl
  | _, w :: ws, .cons h hs => by
    cases h
    rw [List.map_cons, RpAll.strs_eq hs]
theorem immAll_strs : ∀ ws : List Str, immAll (ws.map PyData.str) = true
  | [] => rfl
  | w :: ws => by
    rw [List.map_cons]
    show (imm (PyData.str w) && immAll (ws.map PyData.str)) = true
    rw [immAll_strs ws]
    rfl
theorem immAll_map {α : Type} {f : α → PyData} (hf : ∀ x, imm (f x) = true) : ∀ xs : List α, immAll (xs.map f) = true
  | [] => rfl
  | x :: xs => by
    rw [List.map_cons]
    show (imm (f x) && immAll (xs.map f)) = true
    rw [hf x, immAll_map hf xs]
    rfl
/-! the text's words -/
def dW (ws : List Str) : PyData := .tuple (ws.map .str)
def dC (c : List (List Str)) : PyData := .tuple (c.map dW)
def dF (fs : List (Str × List Str)) : PyData := .tuple (fs.map fun p => .tuple [.str p.1, dW p.2])
theorem imm_dW (ws : List Str) : imm (dW ws) = true := immAll_strs ws
theorem imm_dC (c : List (List Str)) : imm (dC c) = true := immAll_map imm_dW c
theorem imm_dP (p : Str × List Str) : imm (.tuple [.str p.1, dW p.2]) = true := by
  show (imm (.str p.1) && (imm (dW p.2) && immAll [])) = true
  rw [imm_dW]
  rfl
theorem imm_dF (fs : List (Str × List Str)) : imm (dF fs) = true := immAll_map imm_dP fs
theorem Rp.dW_inv {H : Hp} {v : V} {ws : List Str} (h : Rp H v (dW ws)) : ∃ a, v = .ref a ∧ H a = some (.tup (ws.map V.str)) := by
  unfold dW at h
  cases h with
  | tup ha hs => exact ⟨_, rfl, by rw [ha, RpAll.strs_eq hs]⟩
theorem Rp.dW_mk {H : Hp} {a : Addr} {ws : List Str} (h : H a = some (.tup (ws.map V.str))) : Rp H (.ref a) (dW ws) := .tup h (RpAll.strs ws)
/-! ### rules of our own -/
section
variable {X : Cx} {CX : CXT} {k : Nat} {f : Addr} {fd : FuncData} {ps ks : List Str} {sp : Sp} {E : XK} {x : Str} {p pos : Pos} {kws : List Keyword} {tk : TA} {g : List Value → List Value → List Value} {gV : List V → List V → List V}
/-- f(k = e, ..) without places -/
theorem pe_callK0 (F : FnOk X.prog X.w X.K X.mg X.base CX k f fd ps sp) (hr : Room k X.A) (hg : Gl X x) (hm : X.mg x = some (.ref f)) (hk : PySem.W.keepIn X.K (.ref f) = true) (hb : KBinds X.K fd ps ks g gV) (hx : Passes CX X E) (hkw : PK X kws tk)
    (hall : (backToKw pos (keywordEach kws X.env)).all (·.1.isSome) = true := by rfl) (hks : (backToKw pos (keywordEach kws X.env)).filterMap (·.1) = ks := by rfl) (hdb : (x == ("__debug__" : Str)) = false := by decide)
    (hpl : ((backTo pos (starEach [] X.env)).any (·.1) || (backToKw pos (keywordEach kws X.env)).any (·.1.isNone)) = false := by rfl) :
    PE X (.Call (.Name x p) [] kws pos) (tCallK sp gV E tNil tk) := by
  refine ⟨fun pins s σ H Q I h => ?_⟩
  refine wpAny_Call_Name_kw (ld_glob I hg hm ?_ hdb)
  refine PySem.W.callWith_KW0 (h₀ := X.base) I.ok.mod.kin hk hall ?_ hpl
  refine thn (hkw.run pos pins s σ H _ I h) fun ws s2 ⟨zs, H2, I2, rz, q2⟩ => ⟨I2.kIn, ?_⟩
  rw [hks]
  exact run_fnk (us := []) (vs := []) F hr hb hx I2 .nil rz q2
end
section
variable {X : Cx}
/-- x in t: t a tuple of data -/
def rInTD (K : PySem.W.Frag) : R2 := fun x y H Q => ∃ d ds, Dp K H x d ∧ Dp K H y (.tuple ds) ∧ SeqAt.shaped d = true ∧ SeqAt.shaped (.tuple ds) = true ∧ Q (.bl (ds.any fun z => PyData.eqv z d)) H
theorem op_inTD (hu : X.A.units + 65 < cLine) : OpR X (compareOp .In) (rInTD X.K) := by
  intro pins s σ H x y v u Q I rx ry h
  obtain ⟨d, ds, hd, he, sd, se, q⟩ := h
  obtain ⟨as, r1⟩ := Dp.reads I d x v hd rx
  obtain ⟨bs, r2⟩ := Dp.reads I (.tuple ds) y u he ry
  exact SeqAt.in_tuple_reads r2 r1 (SeqAt.canLay_of_shaped se) (SeqAt.canLay_of_shaped sd) (room_in_shaped sd hu) ⟨.bl _, H, I, rfl, q⟩
/-- a text, none or one time -/
def rRepS : R2 := fun x y H Q => ∃ (z : Str) (n : Int), x = .str z ∧ y = .int n ∧ (n = 0 ∨ n = 1) ∧ Q (.str (if n = 0 then Str.empty else z)) H
theorem op_repS : OpR X (binaryOp .Mult) rRepS := by
  intro pins s σ H x y v u Q I rx ry h
  obtain ⟨z, n, rfl, rfl, hn, q⟩ := h
  obtain ⟨t, rfl⟩ := rx
  obtain ⟨t2, rfl⟩ := ry
  rcases hn with rfl | rfl
  · rw [if_pos rfl] at q
    exact PySem.P.mul_str_none (by decide) (by decide) ⟨.str Str.empty, H, I.kept (fun _ _ h => h), ⟨_, rfl⟩, q⟩
  · rw [if_neg (by decide)] at q
    refine PySem.P.mul_str (by decide) (fun _ h => by simp at h) (fun _ h => by simp at h) ?_
    rw [if_neg (by decide), if_pos (by simp)]
    exact ⟨.str z, H, I, ⟨_, rfl⟩, q⟩
theorem rep_len (z : Str) (n : Int) : (if n = 0 then Str.empty else z).length ≤ z.length := by
  split
  · exact Nat.zero_le _
  · exact Nat.le_refl _
end
/-! ### texts of small letters -/
def Low (x : Str) : Prop := ∀ c ∈ x.cps.toList, 97 ≤ c ∧ c ≤ 122
def Wd (x : Str) : Prop := x.length ≤ 16 ∧ Low x
theorem Low.append {x y : Str} (hx : Low x) (hy : Low y) : Low (x ++ y) := fun c hc => by
  have e : (x ++ y).cps.toList = x.cps.toList ++ y.cps.toList := TL.tl_append x y
  rw [e] at hc
  rcases List.mem_append.mp hc with h | h
  · exact hx c h
  · exact hy c h
theorem Low.empty : Low Str.empty := fun c hc => by
  have e : Str.empty.cps.toList = [] := rfl
  rw [e] at hc
  cases hc
theorem Low.cut {z : Str} (h : Low z) (lo hi : Option Int) : Low (cutS z lo hi) := fun c hc => by
  have e : (cutS z lo hi).cps.toList = (z.cps.toList.drop (HT.sIx z.length 0 lo)).take (HT.sIx z.length z.length hi - HT.sIx z.length 0 lo) := rfl
  rw [e] at hc
  exact h c (List.mem_of_mem_drop (List.mem_of_mem_take hc))
theorem Low.rep {z : Str} (h : Low z) (n : Int) : Low (if n = 0 then Str.empty else z) := by
  split
  · exact Low.empty
  · exact h
theorem Low.join : ∀ cs : List Str, (∀ x ∈ cs, Low x) → Low (Str.join (Str.ofString "") cs)
  | [], _ => Low.empty
  | [x], h => h x (List.mem_singleton.mpr rfl)
  | x :: y :: r, h => by
    show Low (x ++ Str.ofString "" ++ Str.join (Str.ofString "") (y :: r))
    refine ((h x (List.mem_cons_self ..)).append ?_).append (Low.join (y :: r) fun z hz => h z (List.mem_cons_of_mem _ hz))
    intro c hc
    rw [show (Str.ofString "").cps.toList = [] by decide +kernel] at hc
    cases hc
theorem Low.ok {x : Str} (h : Low x) : PyData.strOk x = true := by
  unfold PyData.strOk
  rw [← Array.all_toList, List.all_eq_true]
  intro c hc
  exact decide_eq_true (by have := h c hc; omega)
/-! ### shapes: what may be compared -/
theorem canLayAll_map {α : Type} {f : α → PyData} {xs : List α} (hf : ∀ x ∈ xs, (f x).canLay0 = true) : PyData.canLayAll0 (xs.map f) = true := by
  induction xs with
  | nil => rfl
  | cons x r ih =>
    rw [List.map_cons]
    show ((f x).canLay0 && PyData.canLayAll0 (r.map f)) = true
    rw [hf x (List.mem_cons_self ..), ih fun y hy => hf y (List.mem_cons_of_mem _ hy)]
    rfl
theorem depthAll_map {α : Type} {f : α → PyData} {k : Nat} {xs : List α} (hf : ∀ x ∈ xs, (f x).depth ≤ k) : PyData.depthAll (xs.map f) ≤ k := by
  induction xs with
  | nil => exact Nat.zero_le _
  | cons x r ih =>
    rw [List.map_cons]
    show max (f x).depth (PyData.depthAll (r.map f)) ≤ k
    exact Nat.max_le.mpr ⟨hf x (List.mem_cons_self ..), ih fun y hy => hf y (List.mem_cons_of_mem _ hy)⟩
theorem shaped_of {d : PyData} (h : d.canLay0 = true) (hd : d.depth ≤ 64) : SeqAt.shaped d = true := by
  unfold SeqAt.shaped
  rw [h, decide_eq_true hd]
  rfl
theorem lay_dW {ws : List Str} (h : ∀ x ∈ ws, Wd x) : (dW ws).canLay0 = true := canLayAll_map fun x hx => (h x hx).2.ok
theorem dep_dW (ws : List Str) : (dW ws).depth ≤ 1 := Nat.succ_le_succ (depthAll_map (k := 0) fun _ _ => Nat.le_refl _)
theorem lay_dC {c : List (List Str)} (h : ∀ ws ∈ c, ∀ x ∈ ws, Wd x) : (dC c).canLay0 = true := canLayAll_map fun ws hw => lay_dW (h ws hw)
theorem dep_dC (c : List (List Str)) : (dC c).depth ≤ 2 := Nat.succ_le_succ (depthAll_map (k := 1) fun ws _ => dep_dW ws)
abbrev dP (p : Str × List Str) : PyData := .tuple [.str p.1, dW p.2]
theorem lay_dP {p : Str × List Str} (h1 : Wd p.1) (h : ∀ x ∈ p.2, Wd x) : (dP p).canLay0 = true := by
  show (PyData.strOk p.1 && ((dW p.2).canLay0 && true)) = true
  rw [h1.2.ok, lay_dW h]
  rfl
theorem dep_dP (p : Str × List Str) : (dP p).depth ≤ 2 := by
  show max 0 (max (dW p.2).depth 0) + 1 ≤ 2
  have := dep_dW p.2
  omega
theorem eqv_nil_l (ds : List PyData) : PyData.eqv (.list ds) (.list []) = ds.isEmpty := by
  cases ds <;> rfl
theorem eqv_nil_t (ds : List PyData) : PyData.eqv (.tuple ds) (.tuple []) = ds.isEmpty := by
  cases ds <;> rfl
end Sg

namespace Sg
open PySem PySem.Spec PyProof.Rows L2
def topS (i : Nat) : Stmt := PySem.Challenge.pw_sheafbooks_k05_where_whens_hold.main.body.getD i (.Pass ⟨0, 0, 0, 0⟩)
abbrev sTape : Stmt := topS 7
abbrev sDraw : Stmt := topS 8
theorem scTape : FnScope ["_law_script", "_law_k", "_law_cell"] ["_law_script", "_law_k"] (defScope sTape) := ⟨rfl, rfl, rfl, by decide +kernel, rfl, by decide +kernel, by decide +kernel⟩
theorem scDraw : FnScope ["_law_tape_here", "_law_many", "_law_found", "_law_once", "_law_twice", "_law_wide"] ["_law_tape_here", "_law_many"] (defScope sDraw) := ⟨rfl, rfl, rfl, by decide +kernel, rfl, by decide +kernel, by decide +kernel⟩
/-- a tape: three numbers, at most n draws done -/
def TapeAt (H : Hp) (t : Addr) (n : Nat) : Prop := ∃ a b c : Int, H t = some (.lst [.int a, .int b, .int c]) ∧ 0 ≤ b ∧ b < 2 ^ 62 ∧ 0 ≤ c ∧ c ≤ n
theorem TapeAt.mono {H : Hp} {t : Addr} {n m : Nat} (h : TapeAt H t n) (l : n ≤ m) : TapeAt H t m := by
  obtain ⟨a, b, c, e, h1, h2, h3, h4⟩ := h
  exact ⟨a, b, c, e, h1, h2, h3, by omega⟩
theorem TapeAt.keepT {H H' : Hp} {t : Addr} {n : Nat} (h : TapeAt H t n) (e : Ex t H H') : KeepT H H' := by
  obtain ⟨a, b, c, h, _⟩ := h
  exact e.keepT h
theorem TapeAt.ne_tup {H : Hp} {t p : Addr} {n : Nat} {xs : List V} (h : TapeAt H t n) (e : H p = some (.tup xs)) : p ≠ t := by
  obtain ⟨a, b, c, h, _⟩ := h
  intro q
  subst q
  rw [h] at e
  cases e
theorem TapeAt.ne_none {H : Hp} {t p : Addr} {n : Nat} (h : TapeAt H t n) (e : H p = none) : p ≠ t := by
  obtain ⟨a, b, c, h, _⟩ := h
  intro q
  subst q
  rw [h] at e
  cases e
theorem TapeAt.same {H H' : Hp} {t : Addr} {n : Nat} (h : TapeAt H t n) (e : Same H H') : TapeAt H' t n := by
  obtain ⟨a, b, c, h, r⟩ := h
  exact ⟨a, b, c, e _ _ h, r⟩
theorem TapeAt.upd {H : Hp} {t p : Addr} {n : Nat} {o : HO} (h : TapeAt H t n) (e : p ≠ t) : TapeAt (L2.upd H p o) t n := by
  obtain ⟨a, b, c, h, r⟩ := h
  exact ⟨a, b, c, by rw [upd_ne (Ne.symm e)]; exact h, r⟩
def spDraw : Sp := fun vs H Q _ => ∃ (t : Addr) (m : Int) (n : Nat), vs = [.ref t, .int m] ∧ 1 ≤ m ∧ m ≤ 1000 ∧ TapeAt H t n ∧ n ≤ 1000000 ∧
  ∀ (r : Int) (H' : Hp), Ex t H H' → TapeAt H' t (n + 1) → 0 ≤ r → r < m → Q (.int r) H'
theorem mod_lt {i j : Int} (h : 0 < j) : 0 ≤ i % j ∧ i % j < j := ⟨Int.emod_nonneg _ (by omega), Int.emod_lt_of_pos _ h⟩
section
variable {P : Program} {w : World} {K : PySem.W.Frag} {mg : Str → Option Value} {base : Heap}
theorem ok_draw {f : Addr} {fd : FuncData} {k : Nat} (F : Fun K "_law_draw" "_law_draw" sDraw f fd) : FnOk P w K mg base CX0 (k + 1) f fd ["_law_tape_here", "_law_many"] spDraw := by
  refine F.ok scDraw (fun vs H Q E h => ?_) (fun cdv A outer s H vs Q E hr h => ?_)
  · obtain ⟨t, m, n, rfl, _⟩ := h
    rfl
  · obtain ⟨t, m, n, rfl, hm1, hm2, hT, hn, q⟩ := h
    refine ⟨_, pss_cons (ps_if (pt_cmpR op_gt (pe_ix ix_list (pv 0) pe_int (fun _ _ => rfl)) pe_int (nomark _))
        (pss_cons (ps_set (i := 2) scDraw.nd rfl (.inl rfl) (pe_op op_mod (pe_ix ix_list (pv 0) pe_int (fun _ _ => rfl)) (pv 1)))
        (pss_cons (ps_asg (pe_op op_fdiv (pe_ix ix_list (pv 0) pe_int (fun _ _ => rfl)) (pv 1)) (pg_sub (pv 0) pe_int set_list))
        (pss_one (ps_ret (pv 2))))) pss_nil)
      (pss_cons (ps_asg (pe_op op_add (pe_ix ix_list (pv 0) pe_int (fun _ _ => rfl)) pe_int) (pg_sub (pv 0) pe_int set_list))
      (pss_cons (ps_set (i := 3) scDraw.nd rfl (.inl rfl) (pe_op op_mod (pe_op op_pow (pe_op op_add (pe_ix ix_list (pv 0) pe_int (fun _ _ => rfl)) (pe_op op_mul pe_int (pe_ix ix_list (pv 0) pe_int (fun _ _ => rfl)))) pe_int) pe_int))
      (pss_cons (ps_set (i := 4) scDraw.nd rfl (.inl rfl) (pe_op op_mod (pe_op op_mul (pe_op op_add (pv 3) (pe_ix ix_list (pv 0) pe_int (fun _ _ => rfl))) (pe_op op_add (pe_op op_add (pe_op op_mod (pv 3) pe_int) pe_int) (pe_ix ix_list (pv 0) pe_int (fun _ _ => rfl)))) pe_int))
      (pss_cons (ps_set (i := 5) scDraw.nd rfl (.inl rfl) (pe_op op_mod (pe_op op_add (pe_op op_add (pe_op op_fdivW (pe_ix ix_list (pv 0) pe_int (fun _ _ => rfl)) pe_int) (pe_op op_mul (pv 4) pe_int)) (pe_ix ix_list (pv 0) pe_int (fun _ _ => rfl))) pe_int))
      (pss_one (ps_ret (pe_op op_mod (pe_op op_fdiv (pe_op op_mod (pe_op op_add (pe_op op_add (pe_op op_mul (pv 4) pe_int) (pe_op op_mul (pv 5) pe_int)) (pv 3)) pe_int) pe_int) (pv 1)))))))), ?_⟩
    obtain ⟨a, b, c, e, hb0, hb1, hc0, hc1⟩ := hT
    refine ⟨.ref t, rfl, t, _, 0, .int a, rfl, rfl, SqL.of e, rfl, a, 0, rfl, rfl, _, rfl, ite2 (fun ha => ?_) (fun ha => ?_)⟩
    · refine ⟨.ref t, rfl, t, _, 0, .int a, rfl, rfl, SqL.of e, rfl, .int m, rfl, a, m, rfl, rfl, by omega, ?_⟩
      refine ⟨.ref t, rfl, t, _, 0, .int a, rfl, rfl, SqL.of e, rfl, .int m, rfl, a, m, rfl, rfl, ⟨by omega, by omega⟩, ?_⟩
      refine ⟨.ref t, rfl, t, _, 0, 0, rfl, rfl, e, rfl, ?_⟩
      refine ⟨_, rfl, ?_⟩
      exact q _ _ (Ex.upd (Ex.refl t H)) ⟨_, _, _, upd_same, hb0, hb1, hc0, by omega⟩ (mod_lt (by omega)).1 (mod_lt (by omega)).2
    · refine ⟨.ref t, rfl, t, _, 2, .int c, rfl, rfl, SqL.of e, rfl, c, 1, rfl, rfl, ?_⟩
      refine ⟨.ref t, rfl, t, _, 2, 2, rfl, rfl, e, rfl, ?_⟩
      have e1 : upd H t (.lst [.int a, .int b, .int (c + 1)]) t = some (.lst [.int a, .int b, .int (c + 1)]) := upd_same
      refine ⟨.ref t, rfl, t, _, 1, .int b, rfl, rfl, SqL.of e1, rfl, .ref t, rfl, t, _, 2, .int (c + 1), rfl, rfl, SqL.of e1, rfl, 39373, c + 1, rfl, rfl, .inl ⟨by decide, by decide⟩, b, _, rfl, rfl, _, 5, rfl, rfl, ⟨by decide, by decide, ?_⟩, _, 2147483647, rfl, rfl, (by decide : (0 : Int) < 2147483647), ?_⟩
      · show (b + 39373 * (c + 1)).natAbs < 2 ^ 64
        omega
      dsimp only
      generalize hx : (b + 39373 * (c + 1)) ^ (5 : Int).toNat % 2147483647 = x
      have hx1 := mod_lt (i := (b + 39373 * (c + 1)) ^ (5 : Int).toNat) (j := 2147483647) (by decide)
      rw [hx] at hx1
      refine ⟨.int x, rfl, .ref t, rfl, t, _, 2, .int (c + 1), rfl, rfl, SqL.of e1, rfl, x, c + 1, rfl, rfl, .int x, rfl, x, 40009, rfl, rfl, (by decide : (0 : Int) < 40009), _, 7, rfl, rfl, .ref t, rfl, t, _, 2, .int (c + 1), rfl, rfl, SqL.of e1, rfl, _, c + 1, rfl, rfl, _, _, rfl, rfl, .inl ⟨by omega, by omega⟩, _, 2147483629, rfl, rfl, (by decide : (0 : Int) < 2147483629), ?_⟩
      dsimp only
      generalize hy : (x + (c + 1)) * (x % 40009 + 7 + (c + 1)) % 2147483629 = y
      have hy1 := mod_lt (i := (x + (c + 1)) * (x % 40009 + 7 + (c + 1))) (j := 2147483629) (by decide)
      rw [hy] at hy1
      refine ⟨.ref t, rfl, t, _, 1, .int b, rfl, rfl, SqL.of e1, rfl, b, 2147483647, rfl, rfl, wide_div (b := 64) (by decide) (by decide) (by decide) (by decide), .int y, rfl, y, 40009, rfl, rfl, .inl ⟨by omega, by omega⟩, _, _, rfl, rfl, .ref t, rfl, t, _, 2, .int (c + 1), rfl, rfl, SqL.of e1, rfl, _, c + 1, rfl, rfl, _, 2305843009213693951, rfl, rfl, (by decide : (0 : Int) < 2305843009213693951), ?_⟩
      dsimp only
      generalize hz : (b / 2147483647 + y * 40009 + (c + 1)) % 2305843009213693951 = z
      have hz1 := mod_lt (i := (b / 2147483647 + y * 40009 + (c + 1))) (j := 2305843009213693951) (by decide)
      rw [hz] at hz1
      refine ⟨.int y, rfl, y, 48271, rfl, rfl, .inl ⟨by omega, by omega⟩, .int z, rfl, z, 39373, rfl, rfl, .inl ⟨by omega, by omega⟩, _, _, rfl, rfl, .int x, rfl, _, x, rfl, rfl, _, 2305843009213693921, rfl, rfl, (by decide : (0 : Int) < 2305843009213693921), _, 64, rfl, rfl, ⟨by decide, by decide⟩, .int m, rfl, _, m, rfl, rfl, by omega, ?_⟩
      exact q _ _ (Ex.upd (Ex.refl t H)) ⟨_, _, _, upd_same, hb0, hb1, by omega, by omega⟩ (mod_lt (by omega)).1 (mod_lt (by omega)).2
end
end Sg

namespace Sg
open PySem PySem.Spec PyProof.Rows L2
abbrev sFolded : Stmt := topS 9
theorem scFolded : FnScope ["_law_script", "_law_many", "_law_cells", "_law_k", "_law_cell"] ["_law_script", "_law_many"] (defScope sFolded) := ⟨rfl, rfl, rfl, by decide +kernel, rfl, by decide +kernel, by decide +kernel⟩
section
variable {P : Program} {w : World} {K : PySem.W.Frag} {mg : Str → Option Value} {base : Heap}
theorem b01 (b : Bool) : -(2 ^ 64) < (if b = true then (1 : Int) else 0) ∧ (if b = true then (1 : Int) else 0) < 2 ^ 64 := by
  cases b <;> decide
def spTape (K : PySem.W.Frag) : Sp := fun vs H Q _ => ∃ (a : Addr) (k : Nat) (ns : List Int), vs = [.ref a, .int (k : Int)] ∧ SqL K H a (ns.map V.int) ∧ k ≤ 1000 ∧
  ∀ (t : Addr) (H' : Hp), Same H H' → H t = none → TapeAt H' t 0 → Q (.ref t) H'
theorem ok_tape {f : Addr} {fd : FuncData} {k : Nat} (F : Fun K "_law_tape" "_law_tape" sTape f fd) (ml : mg "len" = none) (ma : mg "abs" = none) (mi : mg "int" = none) : FnOk P w K mg base CX0 (k + 1) f fd ["_law_script", "_law_k"] (spTape K) := by
  refine F.ok scTape (fun vs H Q E h => ?_) (fun cdv A outer s H vs Q E hr h => ?_)
  · obtain ⟨a, k, ns, rfl, _⟩ := h
    rfl
  · obtain ⟨a, j, ns, rfl, hS, hj1, q⟩ := h
    refine ⟨_, pss_cons (ps_set (i := 2) scTape.nd rfl (.inl rfl) (pe_ifExp (pt_cmpR op_lt (pv 1) (pe_callB call_len_seq (by rfl) ml PySem.boot_len (pa_cons (pv 0) pa_nil)) (nomark _)) (pe_ix ix_list (pv 0) (pv 1) (fun _ _ => rfl)) pe_int))
      (pss_one (ps_ret (pe_lst (pa_cons (pe_op op_mul (pe_callB call_abs (by rfl) ma (by decide +kernel) (pa_cons (pv 2) pa_nil)) (pe_callTy call_int1 (by rfl) mi (by decide +kernel) (pa_cons (pe_cmpR op_ge (pe_callB call_abs (by rfl) ma (by decide +kernel) (pa_cons (pv 2) pa_nil)) (pe_op op_pow pe_int pe_int) (nomark _)) pa_nil)))
        (pa_cons (pe_op op_add (pe_op op_add (pe_op op_mod (pv 2) pe_int) (pe_op op_mul pe_int (pv 1))) pe_int) (pa_cons pe_int pa_nil)))))), ?_⟩
    refine ⟨.int j, rfl, .ref a, rfl, a, _, rfl, .inl hS, j, _, rfl, rfl, _, rfl, ite2 (fun hc => ?_) (fun hc => ?_)⟩
    · have hc' : (j : Int) < ((ns.map V.int).length : Int) := of_decide_eq_true hc
      rw [List.length_map] at hc'
      have hj : j < ns.length := by omega
      have g : atI (ns.map V.int) (j : Int) = some (.int ns[j]) := atI_nat (by rw [List.getElem?_map, List.getElem?_eq_getElem hj]; rfl)
      refine ⟨.ref a, rfl, .int j, rfl, a, _, j, .int ns[j], rfl, rfl, hS, g, ?_⟩
      refine ⟨_, rfl, _, rfl, _, rfl, _, rfl, 10, 18, rfl, rfl, ⟨by decide, by decide, by decide⟩, _, _, rfl, rfl, .inr ⟨_, rfl, _, _, rfl, rfl, .inr ⟨?_, ?_⟩, ?_⟩⟩
      · exact (b01 _).1
      · exact (b01 _).2
      refine ⟨_, rfl, _, 2305843009213693951, rfl, rfl, (by decide : (0 : Int) < 2305843009213693951), .int j, rfl, 39373, j, rfl, rfl, .inl ⟨by decide, by decide⟩, _, _, rfl, rfl, _, _, rfl, rfl, (by show 3 ≤ sizeLine; decide), fun t nt => ?_⟩
      have hm := mod_lt (i := ns[j]) (j := 2305843009213693951) (by decide)
      exact q _ _ (same_upd nt) nt ⟨_, _, _, upd_same, by omega, by omega, by omega, by omega⟩
    · refine ⟨_, rfl, _, rfl, _, rfl, _, rfl, 10, 18, rfl, rfl, ⟨by decide, by decide, by decide⟩, _, _, rfl, rfl, .inr ⟨_, rfl, _, _, rfl, rfl, .inr ⟨?_, ?_⟩, ?_⟩⟩
      · exact (b01 _).1
      · exact (b01 _).2
      refine ⟨_, rfl, _, 2305843009213693951, rfl, rfl, (by decide : (0 : Int) < 2305843009213693951), .int j, rfl, 39373, j, rfl, rfl, .inl ⟨by decide, by decide⟩, _, _, rfl, rfl, _, _, rfl, rfl, (by show 3 ≤ sizeLine; decide), fun t nt => ?_⟩
      exact q _ _ (same_upd nt) nt ⟨_, _, _, upd_same, by omega, by omega, by omega, by omega⟩
theorem cut_len {α : Type} (xs : List α) (n : Nat) : (xs.take n).length = min n xs.length := List.length_take
def spFolded (K : PySem.W.Frag) : Sp := fun vs H Q _ => ∃ (a : Addr) (m : Nat) (ns : List Int), vs = [.ref a, .int (m : Int)] ∧ SqL K H a (ns.map V.int) ∧ 1 ≤ m ∧ m ≤ 60 ∧ ns.length ≤ 63 ∧
  ∀ (c : Addr) (H' : Hp) (ms : List Int), Same H H' → H c = none → H' c = some (.lst (ms.map V.int)) → ms.length = min m ns.length → Q (.ref c) H'
theorem cut_ints (ns : List Int) (lo hi : Option Int) : cutV (ns.map V.int) lo hi = ((ns.drop (HT.sIx ns.length 0 lo)).take (HT.sIx ns.length ns.length hi - HT.sIx ns.length 0 lo)).map V.int := by
  unfold cutV
  rw [List.length_map, ← List.map_drop, ← List.map_take]
theorem ok_folded {f : Addr} {fd : FuncData} {k : Nat} (F : Fun K "_law_folded" "_law_folded" sFolded f fd) (ml : mg "list" = none) (me : mg "enumerate" = none) : FnOk P w K mg base CX0 (k + 1) f fd ["_law_script", "_law_many"] (spFolded K) := by
  refine F.ok scFolded (fun vs H Q E h => ?_) (fun cdv A outer s H vs Q E hr h => ?_)
  · obtain ⟨a, m, ns, rfl, _⟩ := h
    rfl
  · obtain ⟨a, m, ns, rfl, hS, hm0, hm1, hn, q⟩ := h
    refine ⟨_, pss_cons (ps_set (i := 2) scFolded.nd rfl (.inl rfl) (pe_callTy call_list_of (by rfl) ml (by decide +kernel) (pa_cons (pe_slice sl_list (pv 0) po_none (po_some (pv 1))) pa_nil)))
      (pss_cons (ps_for PassesOwn.never rfl (pi_enum (by rfl) me (pa_cons (pe_slice sl_list (pv 0) (po_some (pv 1)) (po_some pe_int)) pa_nil))
          (pg_tup rfl (pgs_cons (pg_name (i := 3) scFolded.nd rfl (.inl rfl)) (pgs_cons (pg_name (i := 4) scFolded.nd rfl (.inl rfl)) pgs_nil)))
        (pss_one (ps_asg (pe_op op_add (pe_ix ix_list (pv 2) (pe_op op_mod (pv 3) (pv 1)) (fun _ _ => rfl)) (pe_op op_mul (pv 4) (pe_op op_add (pv 3) pe_int))) (pg_sub (pv 2) (pe_op op_mod (pv 3) (pv 1)) set_list))))
      (pss_one (ps_ret (pv 2)))), ?_⟩
    refine ⟨.ref a, rfl, .int (m : Int), rfl, (m : Int), rfl, a, _, rfl, hS, fun s1 n1 => ⟨s1, _, rfl, .inl (SqL.of upd_same), fun c nc => ?_⟩⟩
    have sm1 : Same H (upd H s1 (.lst (cutV (ns.map V.int) none (some (m : Int))))) := same_upd n1
    have sm2 := Same.trans sm1 (same_upd (o := .lst (cutV (ns.map V.int) none (some (m : Int)))) nc)
    refine ⟨.ref a, rfl, .int (m : Int), rfl, (m : Int), rfl, 63, rfl, a, _, rfl, Same.seq sm2 hS, fun d nd => ⟨d, _, rfl, SqL.of upd_same, ?_⟩⟩
    have sm3 := Same.trans sm2 (same_upd (o := .lst (cutV (ns.map V.int) (some (m : Int)) (some 63))) nd)
    have hcH : H c = none := sm1.free nc
    have ndc : c ≠ d := fun e => by
      subst e
      rw [upd_same] at nd
      cases nd
    have e1 : HT.sIx ns.length 0 none = 0 := rfl
    have e2 : HT.sIx ns.length ns.length (some (m : Int)) = min m ns.length := HT.sIx_nat _ _ _
    have e3 : HT.sIx ns.length 0 (some (m : Int)) = min m ns.length := HT.sIx_nat _ _ _
    have len1 : ((ns.drop 0).take (min m ns.length - 0)).length = min m ns.length := by
      rw [List.length_take, List.drop_zero]
      omega
    generalize hzs : (ns.drop (HT.sIx ns.length 0 (some (m : Int)))).take (HT.sIx ns.length ns.length (some 63) - HT.sIx ns.length 0 (some (m : Int))) = zs
    have hzl : zs.length ≤ ns.length - min m ns.length := by
      rw [← hzs, List.length_take, List.length_drop, e3]
      omega
    have hcut : cutV (ns.map V.int) (some (m : Int)) (some 63) = zs.map V.int := by rw [cut_ints, hzs]
    rw [hcut] at sm3 ⊢
    refine for_it (walk_enum (xs := zs.map V.int)) (fun i σ H3 => ∃ (y3 y4 : Option V) (ms : List Int), σ = [some (.ref a), some (.int (m : Int)), some (.ref c), y3, y4] ∧ Same H H3 ∧ H3 c = some (.lst (ms.map V.int)) ∧ ms.length = min m ns.length ∧ H3 d = some (.lst (zs.map V.int))) ?_ ?_ ?_ ?_
    · refine ⟨none, none, _, rfl, sm3, ?_, len1, upd_same⟩
      rw [upd_ne ndc, upd_same, cut_ints, e1, e2]
    · rintro i σ H3 _ ⟨y3, y4, ms, rfl, sm, hc, hl, hd⟩
      exact SqL.of hd
    · rintro i x σ H3 H4 hi ⟨y3, y4, ms, rfl, sm, hc, hl, hd⟩ ⟨T, x1, x2, rfl, nT, rfl, f1, f2⟩
      rw [List.length_map] at hi
      cases f1
      have f2 : (zs.map V.int)[i]? = some x2 := f2
      rw [List.getElem?_map, List.getElem?_eq_getElem hi] at f2
      cases f2
      have hlm : ms.length = m := by omega
      have nTc : c ≠ T := ne_of_none hc nT
      have nTd : d ≠ T := ne_of_none hd nT
      have hc' : upd H3 T (.tup [.int (i : Nat), .int zs[i]]) c = some (.lst (ms.map V.int)) := by rw [upd_ne nTc]; exact hc
      have him : i % m < ms.length := by
        rw [hlm]
        exact Nat.mod_lt _ (by omega)
      have ei : ((i : Nat) : Int) % (m : Int) = ((i % m : Nat) : Int) := by rw [Int.natCast_emod]
      have g : atI (ms.map V.int) (((i : Nat) : Int) % (m : Int)) = some (.int ms[i % m]) := by
        rw [ei]
        exact atI_nat (by rw [List.getElem?_map, List.getElem?_eq_getElem him]; rfl)
      have g2 : ixN (ms.map V.int).length (((i : Nat) : Int) % (m : Int)) = some (i % m) := by
        rw [ei, List.length_map]
        unfold ixN
        rw [if_pos (by omega), if_pos (by omega), Int.toNat_natCast]
      refine ⟨T, _, rfl, SqT.of upd_same, rfl, _, _, rfl, _, _, rfl, rfl, ?_⟩
      refine ⟨.ref c, rfl, .int (i : Nat), rfl, .int (m : Int), rfl, _, _, rfl, rfl, by omega, c, _, _, .int ms[i % m], rfl, rfl, SqL.of hc', g, .int zs[i], rfl, .int (i : Nat), rfl, _, 2, rfl, rfl, _, _, rfl, rfl, .inr ⟨by omega, by omega⟩, _, _, rfl, rfl, ?_⟩
      refine ⟨.ref c, rfl, .int (i : Nat), rfl, .int (m : Int), rfl, _, _, rfl, rfl, by omega, c, _, _, i % m, rfl, rfl, hc', g2, ?_⟩
      refine ⟨some (.int (i : Nat)), some (.int zs[i]), ms.set (i % m) (ms[i % m] + zs[i] * ((i : Int) + 2)), rfl, fun b z e => ?_, ?_, ?_, ?_⟩
      · rw [upd_ne (fun q => by subst q; rw [hcH] at e; cases e), upd_ne (ne_of_none (sm _ _ e) nT)]
        exact sm _ _ e
      · rw [upd_same, List.map_set]
      · rw [List.length_set]
        exact hl
      · rw [upd_ne ndc.symm, upd_ne nTd]
        exact hd
    · rintro σ H3 ⟨y3, y4, ms, rfl, sm, hc, hl, hd⟩
      exact ⟨.ref c, rfl, q _ _ ms sm hcH hc hl⟩
end
end Sg

namespace Sg
open PySem PySem.Spec PyProof.Rows L2
abbrev sNames : Stmt := topS 10
abbrev nNames : List Str := ["_law_tape_here", "_law_many", "_law_letters", "_law_shift", "_law_k", "_law_stem", "_law_at", "_law_step", "_law_found", "_law_head", "_law_tail", "_law_way", "_law_sign"]
theorem scNames : FnScope nNames ["_law_tape_here", "_law_many"] (defScope sNames) := ⟨rfl, rfl, rfl, by decide +kernel, rfl, by decide +kernel, by decide +kernel⟩
abbrev abc : Str := Str.ofString "abcdefghijklmnopqrstuvwxyz"
theorem abc_len : abc.cps.toList.length = 26 := by decide +kernel
theorem abc_low : ∀ c ∈ abc.cps.toList, 97 ≤ c ∧ c ≤ 122 := by decide +kernel
theorem letter {i : Int} (h0 : 0 ≤ i) (h1 : i < 26) : ∃ c, atI abc.cps.toList i = some c ∧ Low ⟨#[c]⟩ := by
  obtain ⟨j, rfl⟩ : ∃ j : Nat, i = j := ⟨i.toNat, by omega⟩
  have hj : j < abc.cps.toList.length := by rw [abc_len]; omega
  refine ⟨abc.cps.toList[j], atI_nat (List.getElem?_eq_getElem hj), fun c hc => ?_⟩
  have e : (⟨#[abc.cps.toList[j]]⟩ : Str).cps.toList = [abc.cps.toList[j]] := rfl
  rw [e] at hc
  rw [List.mem_singleton.mp hc]
  exact abc_low _ (List.getElem_mem hj)
theorem three {α : Type} {r : Int} (h0 : 0 ≤ r) (h1 : r < 3) (x y z : α) : ∃ v, atI [x, y, z] r = some v ∧ (v = x ∨ v = y ∨ v = z) := by
  have : r = 0 ∨ r = 1 ∨ r = 2 := by omega
  rcases this with rfl | rfl | rfl
  · exact ⟨x, rfl, .inl rfl⟩
  · exact ⟨y, rfl, .inr (.inl rfl)⟩
  · exact ⟨z, rfl, .inr (.inr rfl)⟩
theorem sz (n : Nat) (h : n ≤ 1000) : n ≤ sizeLine := Nat.le_of_lt (small1000 h)
section
variable {P : Program} {w : World} {K : PySem.W.Frag} {mg : Str → Option Value} {base : Heap}
def spNames : Sp := fun vs H Q _ => ∃ (t : Addr) (m n : Nat), vs = [.ref t, .int (m : Int)] ∧ m ≤ 60 ∧ TapeAt H t n ∧ n ≤ 900000 ∧
  ∀ (p : Addr) (H' : Hp) (ws : List Str), Ex t H H' → TapeAt H' t (n + 12) → H p = none → H' p = some (.lst (ws.map V.str)) → ws.length = m → (∀ x ∈ ws, Wd x) → Q (.ref p) H'
theorem ok_names {f fD : Addr} {fd fdD : FuncData} {k : Nat} (F : Fun K "_law_names" "_law_names" sNames f fd) (FD : Fun K "_law_draw" "_law_draw" sDraw fD fdD) (bD : Binds K fdD ["_law_tape_here", "_law_many"] []) (gD : mg "_law_draw" = some (.ref fD))
    (ml : mg "len" = none) (mr : mg "range" = none) (mi : mg "int" = none) : FnOk P w K mg base CX0 (k + 2) f fd ["_law_tape_here", "_law_many"] spNames := by
  have GD : FnOk P w K mg base CX0 (k + 1) fD fdD ["_law_tape_here", "_law_many"] spDraw := ok_draw FD
  refine F.ok scNames (fun vs H Q E h => ?_) (fun cdv A outer s H vs Q E hr h => ?_)
  · obtain ⟨t, m, n, rfl, _⟩ := h
    rfl
  · obtain ⟨t, m, n, rfl, hm, hT, hn, q⟩ := h
    refine ⟨_, pss_cons (ps_asg (pe_tup (pa_cons pe_str (pa_cons (pe_call GD hr (by rfl) gD FD.kp bD .nil pass0 (pa_cons (pv 0) (pa_cons pe_int pa_nil))) pa_nil))) (pg_tup rfl (pgs_cons (pg_name (i := 2) scNames.nd rfl (.inr rfl)) (pgs_cons (pg_name (i := 3) scNames.nd rfl (.inl rfl)) pgs_nil))))
      (pss_cons (ps_set (i := 5) scNames.nd rfl (.inl rfl) (pe_join pe_str (pe_lc (own := [("_law_k", 4)]) (g := gName 4) (tt := tYes) rfl scNames.nd (pi_range1 rfl mr (pa_cons (pe_call GD hr (by rfl) gD FD.kp bD .nil pass0 (pa_cons (pv 0) (pa_cons pe_int pa_nil))) pa_nil)) (blkOk_by (N := nNames) (sc := defScope sNames) (by decide +kernel))
          (fun _ _ _ _ _ => pg_name (i := 4) scNames.nd rfl (.inl rfl)) (fun _ _ _ _ _ => pts_nil) (fun _ _ _ _ _ => pe_ix ix_str (pv 2) (pe_call GD hr (by rfl) gD FD.kp bD .nil pass0 (pa_cons (pv 0) (pa_cons pe_int pa_nil))) (fun _ _ => rfl)))))
      (pss_cons (ps_par3 (i := 6) (j := 7) (l := 8) rfl scNames.nd rfl rfl rfl (by decide) (by decide) (by decide) rfl rfl rfl (pa_cons (pe_call GD hr (by rfl) gD FD.kp bD .nil pass0 (pa_cons (pv 0) (pa_cons (pe_op op_add (pe_callB call_len_str (by rfl) ml PySem.boot_len (pa_cons (pv 5) pa_nil)) pe_int) pa_nil)))
          (pa_cons (pe_ix ix_list (pe_lst (pa_cons pe_int (pa_cons pe_int (pa_cons pe_int pa_nil)))) (pe_call GD hr (by rfl) gD FD.kp bD .nil pass0 (pa_cons (pv 0) (pa_cons pe_int pa_nil))) (fun _ _ => rfl)) (pa_cons (pe_lst pa_nil) pa_nil))) rfl)
      (pss_cons (ps_par (i := 9) (j := 10) rfl scNames.nd rfl rfl (by decide) rfl rfl (pa_cons (pe_slice sl_str (pv 5) po_none (po_some (pv 6))) (pa_cons (pe_slice sl_str (pv 5) (po_some (pv 6)) po_none) pa_nil)) rfl)
      (pss_cons (ps_for PassesOwn.never rfl (pi_range1 rfl mr (pa_cons (pv 1) pa_nil)) (pg_name (i := 4) scNames.nd rfl (.inl rfl))
        (pss_cons (ps_set (i := 11) scNames.nd rfl (.inl rfl) (pe_op op_mul (pe_op op_mod (pe_op op_add (pe_op op_add (pv 3) (pv 6)) (pe_callB call_len_str (by rfl) ml PySem.boot_len (pa_cons (pv 5) pa_nil))) pe_int) (pe_callTy call_int1 (by rfl) mi (by decide +kernel) (pa_cons (pe_cmpR op_ne (pv 10) pe_str (nomark _)) pa_nil))))
        (pss_cons (ps_set (i := 12) scNames.nd rfl (.inl rfl) (pe_ix ix_str (pv 2) (pe_op op_mod (pe_op op_add (pv 3) (pe_op op_mul (pv 7) (pe_ix ix_list (pe_lst (pa_cons (pv 4) (pa_cons (pe_op op_fdiv (pv 4) pe_int) (pa_cons (pv 4) pa_nil)))) (pv 11) (fun _ _ => rfl)))) pe_int) (fun _ _ => rfl)))
        (pss_one (ps_expr (pe_bm PySem.F.plainAttrs_list PySem.F.slot_list_append PySem.F.type_list_append mt_append (pv 8) (pa_cons (pe_op op_add_str (pe_op op_add_str (pv 9) (pv 12)) (pe_ix ix_list (pe_lst (pa_cons (pv 10) (pa_cons (pe_op op_repS (pv 10) (pe_op op_mod (pv 4) pe_int)) (pa_cons (pe_slice sl_str (pv 10) po_none (po_some (pe_op op_mod (pv 4) (pe_op op_add (pe_callB call_len_str (by rfl) ml PySem.boot_len (pa_cons (pv 10) pa_nil)) pe_int)))) pa_nil)))) (pv 11) (fun _ _ => rfl))) pa_nil)))))))
      (pss_one (ps_ret (pv 8))))))), ?_⟩
    have nt : ∀ {G : Hp} {j : Nat} {a : Addr}, TapeAt G t j → G a = none → a ≠ t := fun h e => h.ne_none e
    -- letters, shift
    refine ⟨.ref t, rfl, t, 26, n, rfl, by decide, by decide, hT, by omega, fun sh H1 x1 T1 hs0 hs1 => ⟨by show 2 ≤ sizeLine; decide, fun tp ntp => ?_⟩⟩
    have T1' : TapeAt (upd H1 tp (.tup [.str abc, .int sh])) t (n + 1) := T1.upd (nt T1 ntp)
    have x1' : Ex t H (upd H1 tp (.tup [.str abc, .int sh])) := x1.trans (Same.ex (same_upd ntp))
    refine ⟨tp, _, rfl, SqT.of upd_same, rfl, _, _, rfl, _, _, rfl, rfl, ?_⟩
    -- stem
    refine ⟨⟨_, rfl⟩, .ref t, rfl, t, 8, n + 1, rfl, by decide, by decide, T1', by omega, fun r H2 x2 T2 hr0 hr1 => ⟨r, rfl, by omega, by omega, fun D nD => ?_⟩⟩
    refine lc_it (walk_range (lo := 0) (n := r.toNat)) (fun i H3 => ∃ cs : List Str, Ex t H H3 ∧ TapeAt H3 t (n + 2 + i) ∧ H3 D = some (.lst (cs.map V.str)) ∧ cs.length = i ∧ (cs.map (·.length)).sum = i ∧ ∀ x ∈ cs, Low x) ?_ (fun _ _ _ _ => trivial) ?_ ?_
    · exact ⟨[], (x1'.trans x2).trans (Same.ex (same_upd nD)), T2.upd (nt T2 nD), upd_same, rfl, rfl, fun x hx => by cases hx⟩
    · rintro i x H3 H4 hi ⟨cs, x3, T3, e3, l3, u3, w3⟩ ⟨rfl, rfl⟩
      refine ⟨rfl, .str abc, rfl, .ref t, rfl, t, 26, n + 2 + i, rfl, by decide, by decide, T3, by omega, fun r2 H5 x5 T5 h50 h51 => ?_⟩
      obtain ⟨c, hc, lowc⟩ := letter h50 h51
      have hDt : D ≠ t := nt T2 nD
      have e5 := x5 D _ hDt e3
      refine ⟨abc, r2, c, rfl, rfl, (by decide +kernel), hc, _, e5, ?_, cs ++ [⟨#[c]⟩], ?_, ?_, ?_, ?_, ?_, ?_⟩
      · rw [List.length_map, l3]
        exact small1000 (by omega)
      · intro a o ha ho
        have hD : a ≠ D := by
          intro ea
          subst ea
          rw [x2.free ha nD |> x1'.free ha] at ho
          cases ho
        rw [upd_ne hD]
        exact x5 _ _ ha (x3 _ _ ha ho)
      · have := T5.upd (o := .lst (cs.map V.str ++ [.str ⟨#[c]⟩])) hDt
        exact this.mono (by omega)
      · rw [upd_same, List.map_append]
        rfl
      · rw [List.length_append, l3]
        rfl
      · rw [List.map_append, List.sum_append, u3]
        rfl
      · intro x hx
        rcases List.mem_append.mp hx with hx | hx
        · exact w3 x hx
        · rw [List.mem_singleton.mp hx]
          exact lowc
    · rintro H3 ⟨cs, x3, T3, e3, l3, u3, w3⟩
      refine ⟨Str.ofString "", D, cs, rfl, rfl, .inl (SqL.of e3), ?_, ?_⟩
      · rw [u3, l3, show (Str.ofString "").length = 0 by decide +kernel]
        omega
      have hlen : (Txt.join (Str.ofString "") cs).length ≤ 7 := by
        rw [show Txt.join (Str.ofString "") cs = Str.join (Str.ofString "") cs from StrLaws.glued_eq_join _ _]
        have := StrLaws.join_length_le (Str.ofString "") cs
        rw [u3, show (Str.ofString "").length = 0 by decide +kernel] at this
        omega
      have hlow : Low (Txt.join (Str.ofString "") cs) := by
        rw [show Txt.join (Str.ofString "") cs = Str.join (Str.ofString "") cs from StrLaws.glued_eq_join _ _]
        exact Low.join cs w3
      generalize Txt.join (Str.ofString "") cs = stem at hlen hlow ⊢
      -- at, step, found
      refine ⟨.ref t, rfl, .str stem, rfl, stem, rfl, sz _ (by omega), _, 1, rfl, rfl, t, _, n + 2 + r.toNat, rfl, by omega, by omega, T3, by omega, fun at_ H4 x4 T4 h40 h41 => ?_⟩
      refine ⟨by show 3 ≤ sizeLine; decide, fun l nl => ?_⟩
      have nlt := nt T4 nl
      refine ⟨.ref t, rfl, t, 3, n + 2 + r.toNat + 1, rfl, by decide, by decide, T4.upd nlt, by omega, fun r3 H5 x5 T5 h50 h51 => ?_⟩
      obtain ⟨stv, hst, hst2⟩ := three h50 h51 (V.int 1) (.int 7) (.int 25)
      obtain ⟨st, rfl, hst0, hst1⟩ : ∃ st : Int, stv = .int st ∧ 0 ≤ st ∧ st ≤ 25 := by
        rcases hst2 with rfl | rfl | rfl
        · exact ⟨1, rfl, by decide, by decide⟩
        · exact ⟨7, rfl, by decide, by decide⟩
        · exact ⟨25, rfl, by decide, by decide⟩
      refine ⟨l, _, r3, .int st, rfl, rfl, SqL.of (x5 l _ nlt upd_same), hst, ?_⟩
      refine ⟨Nat.zero_le _, fun p np => ⟨_, _, _, rfl, ?_⟩⟩
      have npt := nt T5 np
      have T6 : TapeAt (upd H5 p (.lst [])) t (n + 12) := (T5.upd npt).mono (by omega)
      have x6 : Ex t H (upd H5 p (.lst [])) := ((x3.trans x4).trans (Same.ex (same_upd nl))).trans (x5.trans (Same.ex (same_upd np)))
      have hpH : H p = none := ((x3.trans x4).trans (Same.ex (same_upd nl))).trans x5 |>.free npt np
      -- head, tail
      refine ⟨.str stem, rfl, .int at_, rfl, at_, rfl, stem, rfl, sz _ (by omega), .str stem, rfl, .int at_, rfl, at_, rfl, stem, rfl, sz _ (by omega), _, _, rfl, ?_⟩
      have lh : (cutS stem none (some at_)).length ≤ 7 := Nat.le_trans (cutS_length _ _ _) hlen
      have lt : (cutS stem (some at_) none).length ≤ 7 := Nat.le_trans (cutS_length _ _ _) hlen
      have wh : Low (cutS stem none (some at_)) := hlow.cut _ _
      have wt : Low (cutS stem (some at_) none) := hlow.cut _ _
      generalize cutS stem none (some at_) = hd at lh wh ⊢
      generalize cutS stem (some at_) none = tl at lt wt ⊢
      -- the loop
      refine ⟨.int (m : Int), rfl, (m : Int), rfl, by omega, by omega, ?_⟩
      refine for_it (walk_range (lo := 0) (n := (m : Int).toNat)) (fun i σ H7 => ∃ (y4 y11 y12 : Option V) (ws : List Str), σ = [some (.ref t), some (.int (m : Int)), some (.str abc), some (.int sh), y4, some (.str stem), some (.int at_), some (.int st), some (.ref p), some (.str hd), some (.str tl), y11, y12] ∧ Ex t H H7 ∧ TapeAt H7 t (n + 12) ∧ H7 p = some (.lst (ws.map V.str)) ∧ ws.length = i ∧ ∀ x ∈ ws, Wd x) ?_ (fun _ _ _ _ _ => trivial) ?_ ?_
      · exact ⟨none, none, none, [], rfl, x6, T6, upd_same, rfl, fun x hx => by cases hx⟩
      · rintro i x σ H8 H7 hi ⟨y4, y11, y12, ws, rfl, x7, T7, e7, l7, b7⟩ ⟨rfl, rfl⟩
        rw [Int.toNat_natCast] at hi
        -- way
        refine ⟨.int sh, rfl, .int at_, rfl, _, _, rfl, rfl, .str stem, rfl, stem, rfl, sz _ (by omega), _, _, rfl, rfl, _, 3, rfl, rfl, (by decide : (0 : Int) < 3), .str tl, rfl, rfl, .inr ⟨_, rfl, _, _, rfl, rfl, .inr (b01 _), ?_⟩⟩
        have hw3 := mod_lt (i := sh + at_ + (stem.length : Int)) (j := 3) (by decide)
        obtain ⟨wy, hwy, hw0, hw1⟩ : ∃ wy : Int, (sh + at_ + (stem.length : Int)) % 3 * (if (!decide (V.str tl = V.str (Str.ofString ""))) = true then (1 : Int) else 0) = wy ∧ 0 ≤ wy ∧ wy < 3 := by
          refine ⟨_, rfl, ?_⟩
          split
          · rw [Int.mul_one]
            exact hw3
          · rw [Int.mul_zero]
            exact ⟨by decide, by decide⟩
        dsimp only
        rw [hwy]
        -- sign
        have ik : ((0 : Int) + (i : Nat)) / 2 ≤ i := by omega
        obtain ⟨kv, hkv, hkv2⟩ := three hw0 hw1 (V.int (0 + (i : Nat))) (V.int ((0 + (i : Nat)) / 2)) (V.int (0 + (i : Nat)))
        obtain ⟨kk, rfl, hk0, hk1⟩ : ∃ kk : Int, kv = .int kk ∧ 0 ≤ kk ∧ kk ≤ 100 := by
          rcases hkv2 with rfl | rfl | rfl
          · exact ⟨_, rfl, by omega, by omega⟩
          · exact ⟨_, rfl, by omega, by omega⟩
          · exact ⟨_, rfl, by omega, by omega⟩
        have hs26 := mod_lt (i := sh + st * kk) (j := 26) (by decide)
        obtain ⟨c, hc, lowc⟩ := letter hs26.1 hs26.2
        refine ⟨.str abc, rfl, .int sh, rfl, .int st, rfl, .int (0 + (i : Nat)), rfl, .int (0 + (i : Nat)), rfl, _, 2, rfl, rfl, ⟨by decide, by decide⟩, .int (0 + (i : Nat)), rfl, by show 3 ≤ sizeLine; decide, fun l1 nl1 => ?_⟩
        have nl1t := nt T7 nl1
        have T8 := T7.upd (o := .lst [.int (0 + (i : Nat)), .int ((0 + (i : Nat)) / 2), .int (0 + (i : Nat))]) nl1t
        have sm8 : Same H7 (upd H7 l1 (.lst [.int (0 + (i : Nat)), .int ((0 + (i : Nat)) / 2), .int (0 + (i : Nat))])) := same_upd nl1
        refine ⟨.int wy, rfl, l1, _, wy, .int kk, rfl, rfl, SqL.of upd_same, hkv, st, kk, rfl, rfl, .inl ⟨by omega, by omega⟩, sh, _, rfl, rfl, _, 26, rfl, rfl, (by decide : (0 : Int) < 26), abc, _, c, rfl, rfl, (by decide +kernel), hc, ?_⟩
        -- append
        have lsg : (⟨#[c]⟩ : Str).length = 1 := rfl
        have lh1 : (hd ++ (⟨#[c]⟩ : Str)).length ≤ 8 := by rw [Str.length_append]; omega
        refine ⟨.ref p, rfl, .inl ⟨rfl, _, SqL.of (sm8 _ _ e7)⟩, .str hd, rfl, .str ⟨#[c]⟩, rfl, hd, _, rfl, rfl, sz _ (by omega), .str tl, rfl, .str tl, rfl, .int (0 + (i : Nat)), rfl, _, 2, rfl, rfl, (by decide : (0 : Int) < 2), tl, _, rfl, rfl, (by omega), ?_⟩
        have lr := rep_len tl ((0 + (i : Nat)) % 2)
        have wr : Low (if ((0 : Int) + (i : Nat)) % 2 = 0 then Str.empty else tl) := wt.rep _
        generalize (if ((0 : Int) + (i : Nat)) % 2 = 0 then Str.empty else tl) = tr at lr wr ⊢
        have hkp := mod_lt (i := (0 : Int) + (i : Nat)) (j := (tl.length : Int) + 1) (by omega)
        refine ⟨.str tl, rfl, .int (0 + (i : Nat)), rfl, .str tl, rfl, tl, rfl, sz _ (by omega), _, 1, rfl, rfl, _, _, rfl, rfl, (by omega), _, rfl, tl, rfl, sz _ (by omega), by show 3 ≤ sizeLine; decide, fun l2 nl2 => ?_⟩
        have lc := cutS_length tl none (some ((0 + (i : Nat)) % ((tl.length : Int) + 1)))
        have wc : Low (cutS tl none (some ((0 + (i : Nat)) % ((tl.length : Int) + 1)))) := wt.cut _ _
        generalize hcc : cutS tl none (some ((0 + (i : Nat)) % ((tl.length : Int) + 1))) = tc at lc wc
        have nl2t := nt T8 nl2
        obtain ⟨tv, htv, htv2⟩ := three hw0 hw1 (V.str tl) (.str tr) (.str tc)
        obtain ⟨tt, rfl, htl, wtt⟩ : ∃ tt : Str, tv = .str tt ∧ tt.length ≤ 7 ∧ Low tt := by
          rcases htv2 with rfl | rfl | rfl
          · exact ⟨_, rfl, lt, wt⟩
          · exact ⟨_, rfl, by omega, wr⟩
          · exact ⟨_, rfl, by omega, wc⟩
        have sm9 := Same.trans sm8 (same_upd (o := .lst [.str tl, .str tr, .str tc]) nl2)
        refine ⟨.int wy, rfl, l2, [.str tl, .str tr, .str tc], wy, .str tt, rfl, rfl, SqL.of upd_same, htv, _, tt, rfl, rfl, sz _ (by omega), p, _, _, rfl, rfl, sm9 _ _ e7, ?_, ?_⟩
        · rw [List.length_map, l7]
          exact small1000 (by omega)
        refine ⟨some (.int (0 + (i : Nat))), some (.int wy), some (.str ⟨#[c]⟩), ws ++ [hd ++ ⟨#[c]⟩ ++ tt], rfl, ?_, ?_, ?_, ?_, ?_⟩
        · intro a o ha ho
          have hp : a ≠ p := by
            intro ea
            subst ea
            rw [hpH] at ho
            cases ho
          rw [upd_ne hp]
          exact sm9 _ _ (x7 _ _ ha ho)
        · exact (T7.same sm9).upd npt
        · rw [upd_same, List.map_append]
          rfl
        · rw [List.length_append, l7]
          rfl
        · intro x hx
          rcases List.mem_append.mp hx with hx | hx
          · exact b7 x hx
          · rw [List.mem_singleton.mp hx]
            exact ⟨by rw [Str.length_append]; omega, (wh.append lowc).append wtt⟩
      · rintro σ H7 ⟨y4, y11, y12, ws, rfl, x7, T7, e7, l7, b7⟩
        rw [Int.toNat_natCast] at l7
        exact ⟨.ref p, rfl, q _ _ ws x7 T7 hpH e7 l7 b7⟩
end
end Sg

namespace Sg
open PySem PySem.Spec PyProof.Rows L2
abbrev sPart : Stmt := topS 11
abbrev nPart : List Str := ["_law_tape_here", "_law_some", "_law_many", "_law_left", "_law_k"]
theorem scPart : FnScope nPart ["_law_tape_here", "_law_some", "_law_many"] (defScope sPart) := ⟨rfl, rfl, rfl, by decide +kernel, rfl, by decide +kernel, by decide +kernel⟩
abbrev sFacets : Stmt := topS 13
abbrev nFacets : List Str := ["_law_tape_here", "_law_many", "_law_most", "_law_found", "_law_name", "_law_words"]
theorem scFacets : FnScope nFacets ["_law_tape_here", "_law_many", "_law_most"] (defScope sFacets) := ⟨rfl, rfl, rfl, by decide +kernel, rfl, by decide +kernel, by decide +kernel⟩
abbrev sCase : Stmt := topS 17
abbrev nCase : List Str := ["_law_tape_here", "_law_a_facets", "_law_pair"]
theorem scCase : FnScope nCase ["_law_tape_here", "_law_a_facets"] (defScope sCase) := ⟨rfl, rfl, rfl, by decide +kernel, rfl, by decide +kernel, by decide +kernel⟩
theorem eraseIdx_map' {α β : Type} (f : α → β) : ∀ (xs : List α) (j : Nat), (xs.map f).eraseIdx j = (xs.eraseIdx j).map f
  | [], _ => rfl
  | _ :: _, 0 => rfl
  | x :: xs, j + 1 => by
    show f x :: (xs.map f).eraseIdx j = f x :: (xs.eraseIdx j).map f
    rw [eraseIdx_map' f xs j]
theorem Ex.upd_free {t p : Addr} {H H' : Hp} {o : HO} (s : Ex t H H') (h : H p = none) : Ex t H (L2.upd H' p o) := fun c u n e => by
  rw [upd_ne (fun q => by subst q; rw [h] at e; cases e)]
  exact s c u n e
abbrev rLen (K : PySem.W.Frag) : List V → Hp → VK → Prop := fun xs H Q => ∃ p ys, xs = [.ref p] ∧ (SqL K H p ys ∨ SqT K H p ys) ∧ Q (.int ys.length) H
abbrev rTupOf (K : PySem.W.Frag) : List V → Hp → VK → Prop := fun xs H Q => ∃ p ys, xs = [.ref p] ∧ ((SqL K H p ys ∧ ∀ l, H l = none → Q (.ref l) (upd H l (.tup ys))) ∨ (SqT K H p ys ∧ Q (.ref p) H))
section
variable {P : Program} {w : World} {K : PySem.W.Frag} {mg : Str → Option Value} {base : Heap}
def spPart : Sp := fun vs H Q _ => ∃ (t : Addr) (v : V) (ws : List Str) (m n : Nat), vs = [.ref t, v, .int (m : Int)] ∧ Rp H v (dW ws) ∧ m ≤ ws.length ∧ ws.length ≤ 30 ∧ TapeAt H t n ∧ n ≤ 900000 ∧
  ∀ (p : Addr) (H' : Hp) (us : List Str), Ex t H H' → TapeAt H' t (n + m) → H p = none → H' p = some (.lst (us.map V.str)) → us.length = m → (∀ x ∈ us, x ∈ ws) → Q (.ref p) H'
theorem ok_part {f fD : Addr} {fd fdD : FuncData} {k : Nat} (F : Fun K "_law_part" "_law_part" sPart f fd) (FD : Fun K "_law_draw" "_law_draw" sDraw fD fdD) (bD : Binds K fdD ["_law_tape_here", "_law_many"] []) (gD : mg "_law_draw" = some (.ref fD))
    (ml : mg "len" = none) (mr : mg "range" = none) (mls : mg "list" = none) : FnOk P w K mg base CX0 (k + 2) f fd ["_law_tape_here", "_law_some", "_law_many"] spPart := by
  have GD : FnOk P w K mg base CX0 (k + 1) fD fdD ["_law_tape_here", "_law_many"] spDraw := ok_draw FD
  refine F.ok scPart (fun vs H Q E h => ?_) (fun cdv A outer s H vs Q E hr h => ?_)
  · obtain ⟨t, v, ws, m, n, rfl, _⟩ := h
    rfl
  · obtain ⟨t, v, ws, m, n, rfl, hv, hm, hw, hT, hn, q⟩ := h
    refine ⟨_, pss_cons (ps_set (i := 3) scPart.nd rfl (.inr rfl) (pe_callTy call_list_of (by rfl) mls (by decide +kernel) (pa_cons (pv 1) pa_nil)))
      (pss_one (ps_ret (pe_lc (own := [("_law_k", 4)]) (g := gName 4) (tt := tYes) (te := tBM K "list" rPopAt (tVar 3) (tCons (tCall spDraw [] E0 (tCons (tVar 0) (tCons (tCB (rLen K) (tCons (tVar 3) tNil)) tNil))) tNil)) rfl scPart.nd (pi_range1 rfl mr (pa_cons (pv 2) pa_nil)) (blkOk_by (N := nPart) (sc := defScope sPart) (by decide +kernel))
          (fun _ _ _ _ _ => pg_name (i := 4) scPart.nd rfl (.inl rfl)) (fun _ _ _ _ _ => pts_nil) (fun _ _ _ _ _ => pe_bm PySem.F.plainAttrs_list PySem.F.slot_list_pop PySem.F.type_list_pop mt_popAt (pv 3) (pa_cons (pe_call GD hr (by rfl) gD FD.kp bD .nil pass0 (pa_cons (pv 0) (pa_cons (pe_callB call_len_seq (by rfl) ml PySem.boot_len (pa_cons (pv 3) pa_nil)) pa_nil))) pa_nil))))), ?_⟩
    obtain ⟨a, rfl, ha⟩ := hv.dW_inv
    refine ⟨.ref a, rfl, a, _, rfl, .inr (SqT.of ha), fun l nl => ?_⟩
    have nlt := hT.ne_none nl
    refine ⟨.int (m : Int), rfl, (m : Int), rfl, by omega, by omega, fun D nD => ?_⟩
    have sm1 : Same H (upd H l (.lst (ws.map V.str))) := same_upd nl
    have nDl : D ≠ l := fun e => by
      subst e
      rw [upd_same] at nD
      cases nD
    have nDH : H D = none := sm1.free nD
    have nDt := hT.ne_none nDH
    refine lc_it (walk_range (lo := 0) (n := (m : Int).toNat)) (fun i H3 => ∃ us rs : List Str, Ex t H H3 ∧ TapeAt H3 t (n + i) ∧ H3 l = some (.lst (rs.map V.str)) ∧ rs.length + i = ws.length ∧ (∀ x ∈ rs, x ∈ ws) ∧ H3 D = some (.lst (us.map V.str)) ∧ us.length = i ∧ ∀ x ∈ us, x ∈ ws) ?_ (fun _ _ _ _ => trivial) ?_ ?_
    · refine ⟨[], ws, (Same.ex sm1).trans (Same.ex (same_upd nD)), ((hT.same sm1).upd nDt).mono (by omega), ?_, rfl, fun x h => h, upd_same, rfl, fun x hx => by cases hx⟩
      rw [upd_ne nDl.symm, upd_same]
    · rintro i x H4 H3 hi ⟨us, rs, x3, T3, e3, l3, w3, d3, ld, wd⟩ ⟨rfl, rfl⟩
      rw [Int.toNat_natCast] at hi
      refine ⟨rfl, .ref l, rfl, .inl ⟨rfl, _, SqL.of e3⟩, .ref t, rfl, .ref l, rfl, l, _, rfl, .inl (SqL.of e3), t, _, n + i, rfl, ?_, ?_, T3, by omega, fun r H5 x5 T5 h50 h51 => ?_⟩
      · rw [List.length_map]
        omega
      · rw [List.length_map]
        omega
      rw [List.length_map] at h51
      have e5 := x5 l _ nlt e3
      have d5 := x5 D _ nDt d3
      obtain ⟨j, rfl⟩ : ∃ j : Nat, r = j := ⟨r.toNat, by omega⟩
      have hj : j < rs.length := by omega
      refine ⟨l, _, (j : Int), j, .str rs[j], rfl, rfl, e5, by omega, by omega, ?_, ?_, us.map V.str, ?_, ?_, us ++ [rs[j]], rs.eraseIdx j, ?_, ?_, ?_, ?_, ?_, ?_, ?_, ?_⟩
      · rw [List.length_map]
        unfold seqIndex?
        simp
        omega
      · rw [List.getElem?_map, List.getElem?_eq_getElem hj]
        rfl
      · rw [upd_ne nDl]
        exact d5
      · rw [List.length_map, ld]
        exact small1000 (by omega)
      · exact ((x3.trans x5).upd_free nl).upd_free nDH
      · exact ((T5.upd nlt).upd nDt).mono (by omega)
      · rw [upd_ne nDl.symm, upd_same, eraseIdx_map']
      · rw [List.length_eraseIdx_of_lt hj]
        omega
      · exact fun x hx => w3 x (List.mem_of_mem_eraseIdx hx)
      · rw [upd_same, List.map_append]
        rfl
      · rw [List.length_append, ld]
        rfl
      · intro x hx
        rcases List.mem_append.mp hx with hx | hx
        · exact wd x hx
        · rw [List.mem_singleton.mp hx]
          exact w3 _ (List.getElem_mem hj)
    · rintro H3 ⟨us, rs, x3, T3, e3, l3, w3, d3, ld, wd⟩
      rw [Int.toNat_natCast] at T3 ld
      exact q _ _ us x3 T3 nDH d3 ld wd
/-- facets as they are drawn -/
def FOk (fs : List (Str × List Str)) : Prop := ∀ p ∈ fs, Wd p.1 ∧ 2 ≤ p.2.length ∧ p.2.length ≤ 4 ∧ ∀ x ∈ p.2, Wd x
def spFacets : Sp := fun vs H Q _ => ∃ (t : Addr) (m n : Nat) (s : Int), vs = [.ref t, .int (m : Int), .int s] ∧ m ≤ 4 ∧ 2 ≤ s ∧ s ≤ 4 ∧ TapeAt H t n ∧ n ≤ 800000 ∧
  ∀ (v : V) (H' : Hp) (fs : List (Str × List Str)), Ex t H H' → TapeAt H' t (n + 100) → Rp H' v (dF fs) → fs.length = m → FOk fs → Q v H'
theorem ok_facets {f fD fN : Addr} {fd fdD fdN : FuncData} {k : Nat} (F : Fun K "_law_facets" "_law_facets" sFacets f fd) (FD : Fun K "_law_draw" "_law_draw" sDraw fD fdD) (bD : Binds K fdD ["_law_tape_here", "_law_many"] []) (gD : mg "_law_draw" = some (.ref fD))
    (FN : Fun K "_law_names" "_law_names" sNames fN fdN) (bN : Binds K fdN ["_law_tape_here", "_law_many"] []) (gN : mg "_law_names" = some (.ref fN))
    (ml : mg "len" = none) (mr : mg "range" = none) (mi : mg "int" = none) (ms : mg "sorted" = none) (mt : mg "tuple" = none) : FnOk P w K mg base CX0 (k + 3) f fd ["_law_tape_here", "_law_many", "_law_most"] spFacets := by
  have GD : FnOk P w K mg base CX0 (k + 2) fD fdD ["_law_tape_here", "_law_many"] spDraw := ok_draw FD
  have GN : FnOk P w K mg base CX0 (k + 2) fN fdN ["_law_tape_here", "_law_many"] spNames := ok_names FN FD bD gD ml mr mi
  refine F.ok scFacets (fun vs H Q E h => ?_) (fun cdv A outer s H vs Q E hr h => ?_)
  · obtain ⟨t, m, n, s, rfl, _⟩ := h
    rfl
  · obtain ⟨t, m, n, so, rfl, hm, hs0, hs1, hT, hn, q⟩ := h
    refine ⟨_, pss_cons (ps_set (i := 3) scFacets.nd rfl (.inl rfl) (pe_lst pa_nil))
      (pss_cons (ps_for PassesOwn.never rfl (pi_list (pe_callB cr_sortedS (by rfl) ms (by decide +kernel) (pa_cons (pe_call GN hr (by rfl) gN FN.kp bN .nil pass0 (pa_cons (pv 0) (pa_cons (pv 1) pa_nil))) pa_nil))) (pg_name (i := 4) scFacets.nd rfl (.inl rfl))
        (pss_cons (ps_set (i := 5) scFacets.nd rfl (.inl rfl) (pe_tupleOf (by rfl) mt (pe_callB cr_sortedS (by rfl) ms (by decide +kernel) (pa_cons (pe_call GN hr (by rfl) gN FN.kp bN .nil pass0 (pa_cons (pv 0) (pa_cons (pe_op op_add pe_int (pe_call GD hr (by rfl) gD FD.kp bD .nil pass0 (pa_cons (pv 0) (pa_cons (pe_op op_sub (pv 2) pe_int) pa_nil)))) pa_nil))) pa_nil))))
        (pss_one (ps_expr (pe_bm PySem.F.plainAttrs_list PySem.F.slot_list_append PySem.F.type_list_append mt_append (pv 3) (pa_cons (pe_tup (pa_cons (pv 4) (pa_cons (pe_ifExp (PW.pt (pw_and (pt_cmpR (op_neD hr.units) (pv 3) (pe_lst pa_nil) (nomark _)) (pw_and1 (pt_cmpR op_eq (pe_call GD hr (by rfl) gD FD.kp bD .nil pass0 (pa_cons (pv 0) (pa_cons pe_int pa_nil))) pe_int (nomark _)))))
            (pe_ix ix_tup (pe_ix ix_list (pv 3) (pe_un un_neg pe_int) (fun _ _ => rfl)) pe_int (fun _ _ => rfl)) (pv 5)) pa_nil))) pa_nil))))))
      (pss_one (ps_ret (pe_tupleOf (by rfl) mt (pv 3))))), ?_⟩
    refine ⟨Nat.zero_le _, fun l nl => ?_⟩
    have nlt := hT.ne_none nl
    refine ⟨.ref t, rfl, .int (m : Int), rfl, t, m, n, rfl, by omega, hT.upd nlt, by omega, fun p H1 ws x1 T1 np e1 l1 b1 => ?_⟩
    refine ⟨p, ws, rfl, SqL.of e1, by omega, fun ys p2 hperm _ np2 => ?_⟩
    have b2 : ∀ x ∈ ys, Wd x := fun x hx => b1 x (hperm.mem_iff.mp hx)
    have ly : ys.length = m := by rw [hperm.length_eq, l1]
    have x1' : Ex t H H1 := (Same.ex (same_upd nl)).trans x1
    have np2t := T1.ne_none np2
    have np2H : H p2 = none := x1'.free np2t np2
    have hl1 : H1 l = some (.lst []) := x1 l _ nlt upd_same
    have nlp2 : l ≠ p2 := ne_of_none hl1 np2
    refine ⟨p2, rfl, ⟨_, SqL.of upd_same⟩, ?_⟩
    refine for_it (walk_list (xs := ys.map V.str)) (fun i σ H3 => ∃ (y4 y5 : Option V) (vs : List V) (fs : List (Str × List Str)), σ = [some (.ref t), some (.int (m : Int)), some (.int so), some (.ref l), y4, y5] ∧ Ex t H H3 ∧ TapeAt H3 t (n + 12 + 14 * i) ∧ H3 p2 = some (.lst (ys.map V.str)) ∧ H3 l = some (.lst vs) ∧ RpAll H3 vs (fs.map dP) ∧ fs.length = i ∧ FOk fs) ?_ ?_ ?_ ?_
    · refine ⟨none, none, [], [], rfl, x1'.trans (Same.ex (same_upd np2)), (T1.upd np2t).mono (by omega), upd_same, ?_, .nil, rfl, fun p hp => by cases hp⟩
      rw [upd_ne nlp2]
      exact hl1
    · rintro i σ H3 _ ⟨y4, y5, vs, fs, rfl, x3, T3, e3, d3, r3, l3, f3⟩
      exact SqL.of e3
    · rintro i x σ H4 H3 hi ⟨y4, y5, vs, fs, rfl, x3, T3, e3, d3, r3, l3, f3⟩ ⟨rfl, fx⟩
      rw [List.length_map] at hi
      rw [List.getElem?_map, List.getElem?_eq_getElem hi] at fx
      cases fx
      have hin : n + 12 + 14 * i ≤ 800100 := by omega
      refine ⟨.ref t, rfl, .ref t, rfl, .int so, rfl, so, 1, rfl, rfl, t, so - 1, _, rfl, by omega, by omega, T3, by omega, fun r H5 x5 T5 h50 h51 => ?_⟩
      obtain ⟨r', rfl⟩ : ∃ r' : Nat, r = r' := ⟨r.toNat, by omega⟩
      refine ⟨2, (r' : Int), rfl, rfl, t, 2 + r', _, by rfl, by omega, T5, by omega, fun p3 H6 us x6 T6 np3 e6 l6 b6 => ?_⟩
      refine ⟨p3, us, rfl, SqL.of e6, by omega, fun zs p4 hperm2 _ np4 => .inl ⟨p4, _, rfl, SqL.of upd_same, fun p5 np5 => ?_⟩⟩
      have lz : zs.length = 2 + r' := by rw [hperm2.length_eq, l6]
      have bz : ∀ x ∈ zs, Wd x := fun x hx => b6 x (hperm2.mem_iff.mp hx)
      have np4t := T6.ne_none np4
      have T7 := T6.upd (o := .lst (zs.map V.str)) np4t
      have np5t := T7.ne_none np5
      have T8 := T7.upd (o := .tup (zs.map V.str)) np5t
      have sm : Same H6 (upd (upd H6 p4 (.lst (zs.map V.str))) p5 (.tup (zs.map V.str))) := Same.trans (same_upd np4) (same_upd np5)
      have x8 : Ex t H3 (upd (upd H6 p4 (.lst (zs.map V.str))) p5 (.tup (zs.map V.str))) := (x5.trans x6).trans (Same.ex sm)
      have np2t' : p2 ≠ t := np2t
      have e8 := x8 _ _ np2t' e3
      have d8 := x8 _ _ nlt d3
      have r8 := r3.keep (T3.keepT x8) (immAll_map imm_dP fs)
      have hw8 : Rp (upd (upd H6 p4 (.lst (zs.map V.str))) p5 (.tup (zs.map V.str))) (.ref p5) (dW zs) := Rp.dW_mk upd_same
      have x38 := x3.trans x8
      clear hw8
      have hw8 : Rp (upd (upd H6 p4 (.lst (zs.map V.str))) p5 (.tup (zs.map V.str))) (.ref p5) (dW zs) := Rp.dW_mk upd_same
      generalize upd (upd H6 p4 (.lst (zs.map V.str))) p5 (.tup (zs.map V.str)) = H8 at *
      have fin : ∀ (H9 : Hp) (v : V) (us' : List Str) (y5' : Option V), Ex t H8 H9 → TapeAt H9 t (n + 12 + 14 * (i + 1)) → Rp H9 v (dW us') → 2 ≤ us'.length → us'.length ≤ 4 → (∀ x ∈ us', Wd x) →
          (2 ≤ sizeLine ∧ ∀ T, H9 T = none → ∃ l' xs y, V.ref l = .ref l' ∧ [V.ref T] = [y] ∧ upd H9 T (.tup [.str ys[i], v]) l' = some (.lst xs) ∧ xs.length < sizeLine ∧
            ∃ (y4 y5 : Option V) (vs : List V) (fs : List (Str × List Str)), [some (.ref t), some (.int (m : Int)), some (.int so), some (.ref l), some (.str ys[i]), y5'] = [some (.ref t), some (.int (m : Int)), some (.int so), some (.ref l), y4, y5] ∧ Ex t H (upd (upd H9 T (.tup [.str ys[i], v])) l' (.lst (xs ++ [y]))) ∧ TapeAt (upd (upd H9 T (.tup [.str ys[i], v])) l' (.lst (xs ++ [y]))) t (n + 12 + 14 * (i + 1)) ∧ (upd (upd H9 T (.tup [.str ys[i], v])) l' (.lst (xs ++ [y]))) p2 = some (.lst (ys.map V.str)) ∧ (upd (upd H9 T (.tup [.str ys[i], v])) l' (.lst (xs ++ [y]))) l = some (.lst vs) ∧ RpAll (upd (upd H9 T (.tup [.str ys[i], v])) l' (.lst (xs ++ [y]))) vs (fs.map dP) ∧ fs.length = i + 1 ∧ FOk fs) := by
        intro H9 v us' y5' x9 T9 hv hu0 hu1 hu2
        refine ⟨by decide, fun T nT => ?_⟩
        have nTt := T9.ne_none nT
        have d9 := x9 _ _ nlt d8
        have e9 := x9 _ _ np2t' e8
        have nlT : l ≠ T := ne_of_none d9 nT
        have np2T : p2 ≠ T := ne_of_none e9 nT
        have kT : KeepT H9 (upd (upd H9 T (.tup [.str ys[i], v])) l (.lst (vs ++ [.ref T]))) := (Same.keepT (same_upd nT)).trans (keepT_lst (xs := vs) (by rw [upd_ne nlT]; exact d9))
        refine ⟨l, vs, .ref T, rfl, rfl, ?_, ?_, some (.str ys[i]), y5', vs ++ [.ref T], fs ++ [(ys[i], us')], rfl, ?_, ?_, ?_, upd_same, ?_, ?_, ?_⟩
        · rw [upd_ne nlT]
          exact d9
        · rw [r8.length, List.length_map, l3]
          exact small1000 (by omega)
        · exact ((x38.trans x9).trans (Same.ex (same_upd nT))).upd_free nl
        · exact (T9.upd nTt).upd nlt
        · rw [upd_ne nlp2.symm, upd_ne np2T]
          exact e9
        · rw [List.map_append]
          refine ((r8.keep (T8.keepT x9) (immAll_map imm_dP fs)).keep kT (immAll_map imm_dP fs)).append (.cons (.tup (xs := [.str ys[i], v]) ?_ (.cons (.str _) (.cons (hv.keep kT (imm_dW us')) .nil))) .nil)
          rw [upd_ne nlT.symm, upd_same]
        · rw [List.length_append, l3]
          rfl
        · intro p hp
          rcases List.mem_append.mp hp with hp | hp
          · exact f3 p hp
          · rw [List.mem_singleton.mp hp]
            exact ⟨b2 _ (List.getElem_mem hi), hu0, hu1, hu2⟩
      refine ⟨.ref l, rfl, .inl ⟨rfl, _, SqL.of d8⟩, .str ys[i], rfl, .ref l, rfl, Nat.zero_le _, fun z nz => ?_⟩
      have nzt := T8.ne_none nz
      refine ⟨.list (fs.map dP), .list [], Rp.dp (.lst (same_upd nz _ _ d8) (r8.same (same_upd nz))), Rp.dp (.lst upd_same .nil), shaped_of (canLayAll_map fun p hp => lay_dP (f3 p hp).1 (f3 p hp).2.2.2) (by have := depthAll_map (k := 2) (xs := fs) fun p _ => dep_dP p; show PyData.depthAll _ + 1 ≤ 64; omega), rfl, _, rfl, ?_⟩
      rw [eqv_nil_l]
      cases hfs : fs with
      | nil => exact ⟨_, rfl, fin _ _ zs _ (Same.ex (same_upd nz)) ((T8.upd nzt).mono (by omega)) (hw8.same (same_upd nz)) (by omega) (by omega) bz⟩
      | cons f0 fr =>
        refine ⟨.ref t, rfl, t, 4, _, rfl, by decide, by decide, T8.upd nzt, by omega, fun r2 H9 x9 T9 h90 h91 => ⟨rfl, _, rfl, ite2 (fun h0 => ?_) (fun h0 => ?_)⟩⟩
        · have hfl : fs.length - 1 < fs.length := by rw [hfs]; simp
          have hget : (fs.map dP)[fs.length - 1]? = some (dP fs[fs.length - 1]) := by rw [List.getElem?_map, List.getElem?_eq_getElem hfl]; rfl
          have x89 : Ex t H8 H9 := (Same.ex (same_upd nz)).trans x9
          have r9 := r8.keep (T8.keepT x89) (immAll_map imm_dP fs)
          obtain ⟨v9, hv9, hr9⟩ := r9.getD hget
          have hvl := r8.length
          rw [List.length_map] at hvl
          cases hr9 with
          | tup ha hs =>
            rename_i a9 xs9
            cases hs with
            | cons h1 hs2 =>
              cases hs2 with
              | cons h2 hs3 =>
                cases hs3
                have hat : atI vs (-1) = some (.ref a9) := by
                  have hv1 : vs = vs.dropLast ++ [.ref a9] := by
                    have hne : vs ≠ [] := by intro z; rw [z] at hvl; simp at hvl; omega
                    rw [← hvl] at hv9
                    have : vs.getLast hne = .ref a9 := by
                      rw [List.getLast_eq_getElem]
                      have := List.getElem?_eq_getElem (l := vs) (i := vs.length - 1) (by rw [hvl]; exact hfl)
                      rw [this] at hv9
                      exact Option.some.inj hv9
                    rw [← this, List.dropLast_concat_getLast]
                  rw [hv1]
                  exact atI_last _ _
                have hp0 := f3 _ (List.getElem_mem hfl)
                exact ⟨.ref l, rfl, 1, rfl, l, vs, -1, .ref a9, rfl, rfl, SqL.of (x89 _ _ nlt d8), hat, a9, _, 1, _, rfl, rfl, SqT.of ha, rfl, fin _ _ _ _ x89 (T9.mono (by omega)) h2 hp0.2.1 hp0.2.2.1 hp0.2.2.2⟩
        · have x89 : Ex t H8 H9 := (Same.ex (same_upd nz)).trans x9
          exact ⟨_, rfl, fin _ _ zs _ x89 (T9.mono (by omega)) (hw8.keep (T8.keepT x89) (imm_dW zs)) (by omega) (by omega) bz⟩
    · rintro σ H3 ⟨y4, y5, vs, fs, rfl, x3, T3, e3, d3, r3, l3, f3⟩
      rw [List.length_map, ly] at T3 l3
      refine ⟨.ref l, rfl, .inl ⟨l, _, rfl, SqL.of d3, fun z nz => ?_⟩⟩
      exact q _ _ fs (x3.trans (Same.ex (same_upd nz))) ((T3.upd (T3.ne_none nz)).mono (by omega)) (.tup upd_same (r3.same (same_upd nz))) l3 f3
end
end Sg

namespace Sg
open PySem PySem.Spec PyProof.Rows L2
/-- a case as they are drawn -/
def COk (c : List (List Str)) : Prop := c.length ≤ 4 ∧ ∀ ws ∈ c, 1 ≤ ws.length ∧ ws.length ≤ 4 ∧ ∀ x ∈ ws, Wd x
theorem Rp.dP_inv {H : Hp} {v : V} {p : Str × List Str} (h : Rp H v (dP p)) : ∃ a u, v = .ref a ∧ H a = some (.tup [.str p.1, u]) ∧ Rp H u (dW p.2) := by
  cases h with
  | tup ha hs =>
    cases hs with
    | cons h1 hs2 =>
      cases hs2 with
      | cons h2 hs3 =>
        cases hs3
        cases h1
        exact ⟨_, _, rfl, ha, h2⟩
section
variable {P : Program} {w : World} {K : PySem.W.Frag} {mg : Str → Option Value} {base : Heap}
def spCase : Sp := fun vs H Q _ => ∃ (t : Addr) (v : V) (n : Nat) (fs : List (Str × List Str)), vs = [.ref t, v] ∧ Rp H v (dF fs) ∧ FOk fs ∧ fs.length ≤ 4 ∧ TapeAt H t n ∧ n ≤ 800000 ∧
  ∀ (v : V) (H' : Hp) (c : List (List Str)), Ex t H H' → TapeAt H' t (n + 20) → Rp H' v (dC c) → c.length = fs.length → COk c → Q v H'
theorem ok_case {f fD fP : Addr} {fd fdD fdP : FuncData} {k : Nat} (F : Fun K "_law_case" "_law_case" sCase f fd) (FD : Fun K "_law_draw" "_law_draw" sDraw fD fdD) (bD : Binds K fdD ["_law_tape_here", "_law_many"] []) (gD : mg "_law_draw" = some (.ref fD))
    (FP : Fun K "_law_part" "_law_part" sPart fP fdP) (bP : Binds K fdP ["_law_tape_here", "_law_some", "_law_many"] []) (gP : mg "_law_part" = some (.ref fP))
    (ml : mg "len" = none) (mr : mg "range" = none) (mls : mg "list" = none) (ms : mg "sorted" = none) (mt : mg "tuple" = none) : FnOk P w K mg base CX0 (k + 3) f fd ["_law_tape_here", "_law_a_facets"] spCase := by
  have GD : FnOk P w K mg base CX0 (k + 2) fD fdD ["_law_tape_here", "_law_many"] spDraw := ok_draw FD
  have GP : FnOk P w K mg base CX0 (k + 2) fP fdP ["_law_tape_here", "_law_some", "_law_many"] spPart := ok_part FP FD bD gD ml mr mls
  refine F.ok scCase (fun vs H Q E h => ?_) (fun cdv A outer s H vs Q E hr h => ?_)
  · obtain ⟨t, v, n, fs, rfl, _⟩ := h
    rfl
  · obtain ⟨t, v, n, fs, rfl, hv, hF, hfl, hT, hn, q⟩ := h
    refine ⟨_, pss_one (ps_ret (pe_tupleOf (by rfl) mt (pe_lc (own := [("_law_pair", 2)]) (g := gName 2) (tt := tYes)
        (te := tThen (tCB (rSortedS K) (tCons (tCall spPart [] E0 (tCons (tVar 0) (tCons (tOp (rIxT K) (tVar 2) (tC (.int 1))) (tCons (tOp (rI0 fun i j => .int (i + j)) (tC (.int 1)) (tCall spDraw [] E0 (tCons (tVar 0) (tCons (tCB (rLen K) (tCons (tOp (rIxT K) (tVar 2) (tC (.int 1))) tNil)) tNil)))) tNil)))) tNil)) (kTup K))
        rfl scCase.nd (pi_tup (pv 1)) (blkOk_by (N := nCase) (sc := defScope sCase) (by decide +kernel))
        (fun _ _ _ _ _ => pg_name (i := 2) scCase.nd rfl (.inl rfl)) (fun _ _ _ _ _ => pts_nil)
        (fun _ _ _ _ _ => pe_tupleOf (by rfl) mt (pe_callB cr_sortedS (by rfl) ms (by decide +kernel) (pa_cons (pe_call GP hr (by rfl) gP FP.kp bP .nil pass0 (pa_cons (pv 0) (pa_cons (pe_ix ix_tup (pv 2) pe_int (fun _ _ => rfl)) (pa_cons (pe_op op_add pe_int (pe_call GD hr (by rfl) gD FD.kp bD .nil pass0 (pa_cons (pv 0) (pa_cons (pe_callB call_len_seq (by rfl) ml PySem.boot_len (pa_cons (pe_ix ix_tup (pv 2) pe_int (fun _ _ => rfl)) pa_nil)) pa_nil)))) pa_nil)))) pa_nil)))))), ?_⟩
    unfold dF at hv
    cases hv with
    | tup ha hs =>
      rename_i a vs
      refine ⟨.ref a, rfl, a, rfl, ⟨vs, SqT.of ha⟩, fun D nD => ?_⟩
      have nDt := hT.ne_none nD
      have hlen := hs.length
      rw [List.length_map] at hlen
      have x0 : Ex t H (upd H D (.lst [])) := Same.ex (same_upd nD)
      refine lc_it (walk_tup (xs := vs)) (fun i H3 => ∃ (c : List (List Str)) (us : List V), Ex t H H3 ∧ TapeAt H3 t (n + 5 * i) ∧ H3 D = some (.lst us) ∧ RpAll H3 us (c.map dW) ∧ c.length = i ∧ ∀ ws ∈ c, 1 ≤ ws.length ∧ ws.length ≤ 4 ∧ ∀ x ∈ ws, Wd x) ?_ ?_ ?_ ?_
      · exact ⟨[], [], x0, hT.upd nDt, upd_same, .nil, rfl, fun ws hw => by cases hw⟩
      · rintro i H3 _ ⟨c, us, x3, _⟩
        exact SqT.of (x3 _ _ (hT.ne_tup ha) ha)
      · rintro i x H4 H3 hi ⟨c, us, x3, T3, d3, r3, l3, w3⟩ ⟨rfl, fx⟩
        obtain ⟨d, hd, hr0⟩ := hs.get fx
        have hif : i < fs.length := by omega
        rw [List.getElem?_map, List.getElem?_eq_getElem hif] at hd
        cases hd
        obtain ⟨b, u, rfl, hb, hu⟩ := (hr0.keep (hT.keepT x3) (imm_dP _)).dP_inv
        obtain ⟨g, rfl, hg⟩ := hu.dW_inv
        have hp := hF _ (List.getElem_mem hif)
        refine ⟨rfl, .ref t, rfl, .ref b, rfl, b, _, 1, .ref g, rfl, rfl, SqT.of hb, rfl, .ref t, rfl, .ref b, rfl, b, _, 1, .ref g, rfl, rfl, SqT.of hb, rfl, g, _, rfl, .inr (SqT.of hg), t, _, _, rfl, ?_, ?_, T3, by omega, fun r H5 x5 T5 h50 h51 => ?_⟩
        · rw [List.length_map]
          omega
        · rw [List.length_map]
          omega
        rw [List.length_map] at h51
        obtain ⟨r', rfl⟩ : ∃ r' : Nat, r = r' := ⟨r.toNat, by omega⟩
        refine ⟨1, (r' : Int), rfl, rfl, t, .ref g, _, 1 + r', _, by rfl, (Rp.dW_mk hg).keep (T3.keepT x5) (imm_dW _), by omega, by omega, T5, by omega, fun p H6 ws x6 T6 np e6 l6 w6 => ?_⟩
        refine ⟨p, ws, rfl, SqL.of e6, by omega, fun ys p2 hperm _ np2 => .inl ⟨p2, _, rfl, SqL.of upd_same, fun p3 np3 => ?_⟩⟩
        have sm : Same H6 (upd (upd H6 p2 (.lst (ys.map V.str))) p3 (.tup (ys.map V.str))) := Same.trans (same_upd np2) (same_upd np3)
        have x8 : Ex t H3 (upd (upd H6 p2 (.lst (ys.map V.str))) p3 (.tup (ys.map V.str))) := (x5.trans x6).trans (Same.ex sm)
        have T8 := T6.same sm
        have hy8 : Rp (upd (upd H6 p2 (.lst (ys.map V.str))) p3 (.tup (ys.map V.str))) (.ref p3) (dW ys) := Rp.dW_mk upd_same
        generalize upd (upd H6 p2 (.lst (ys.map V.str))) p3 (.tup (ys.map V.str)) = H8 at *
        have d8 := x8 _ _ nDt d3
        have kT : KeepT H8 (upd H8 D (.lst (us ++ [.ref p3]))) := keepT_lst d8
        have ly : ys.length = 1 + r' := by rw [hperm.length_eq, l6]
        refine ⟨us, d8, ?_, c ++ [ys], us ++ [.ref p3], ?_, ?_, upd_same, ?_, ?_, ?_⟩
        · rw [r3.length, List.length_map, l3]
          exact small1000 (by omega)
        · exact (x3.trans x8).upd_free nD
        · exact (T8.upd nDt).mono (by omega)
        · rw [List.map_append]
          exact ((r3.keep (T3.keepT x8) (immAll_map imm_dW c)).keep kT (immAll_map imm_dW c)).append (.cons (hy8.keep kT (imm_dW ys)) .nil)
        · rw [List.length_append, l3]
          rfl
        · intro zs hz
          rcases List.mem_append.mp hz with hz | hz
          · exact w3 zs hz
          · rw [List.mem_singleton.mp hz]
            exact ⟨by omega, by omega, fun x hx => hp.2.2.2 x (w6 x (hperm.mem_iff.mp hx))⟩
      · rintro H3 ⟨c, us, x3, T3, d3, r3, l3, w3⟩
        refine .inl ⟨D, _, rfl, SqL.of d3, fun z nz => ?_⟩
        exact q _ _ c (x3.trans (Same.ex (same_upd nz))) ((T3.upd (T3.ne_none nz)).mono (by omega)) (.tup upd_same (r3.same (same_upd nz))) (by omega) ⟨by omega, w3⟩
end
end Sg

namespace Sg
open PySem PySem.Spec PyProof.Rows L2
abbrev sSame : Stmt := topS 12
abbrev nSame : List Str := ["_law_found", "_law_due", "_law_one", "_law_other"]
theorem scSame : FnScope nSame ["_law_found", "_law_due"] (defScope sSame) := ⟨rfl, rfl, rfl, by decide +kernel, rfl, by decide +kernel, by decide +kernel⟩
theorem walk_zipT {K : PySem.W.Frag} {a b : Addr} {xs ys : List V} {n : Nat} (hn : n = min xs.length ys.length) : Walk (RZ.ItzT K a b) n (fun H => SqT K H a xs ∧ SqT K H b ys) (YPair (fun i => xs[i]?) (fun i => ys[i]?)) := by
  subst hn
  refine ⟨fun i _ hi q => ?_, fun _ q => ⟨xs, ys, q.1, q.2, by omega⟩, fun i H v H' _ q y => ?_⟩
  · have h1 : i < xs.length := by omega
    have h2 : i < ys.length := by omega
    exact ⟨xs, ys, xs[i], ys[i], q.1, q.2, by simp [h1], by simp [h2]⟩
  · obtain ⟨T, x, z, h1, h2, h3, h4, h5⟩ := y
    exact ⟨T, x, z, h1, h2, h3, h4 xs q.1, h5 ys q.2⟩
def tyD : PyData → String
  | .none => "NoneType"
  | .bool _ => "bool"
  | .int _ => "int"
  | .str _ => "str"
  | .list _ => "list"
  | .tuple _ => "tuple"
  | .dict _ => "dict"
theorem Rp.ty {K : PySem.W.Frag} {H : Hp} {v : V} {d : PyData} (h : Rp H v d) : TyX K H v (.type (tyD d)) := by
  cases h with
  | non => exact .base .non
  | bl b => exact .base (.bl b)
  | int i => exact .base (.int i)
  | str x => exact .base (.str x)
  | lst h _ => exact .base (.lst h)
  | tup h _ => exact .base (.tup h)
def Fit : Nat → PyData → Prop
  | n + 1, .list ds => ds.length ≤ 1000 ∧ ∀ d ∈ ds, Fit n d
  | n + 1, .tuple ds => ds.length ≤ 1000 ∧ ∀ d ∈ ds, Fit n d
  | 0, .list _ => False
  | 0, .tuple _ => False
  | _, .dict _ => False
  | _, _ => True
def spSame : Nat → Sp
  | 0 => fun _ _ _ _ => False
  | n + 1 => fun vs H Q _ => ∃ (u v : V) (d : PyData), vs = [u, v] ∧ Rp H u d ∧ Rp H v d ∧ Fit n d ∧ ∀ H', Same H H' → Q (.bl true) H'
theorem kitA {K : PySem.W.Frag} {t a b : String} {x y : Bool} (hx : kitB t a = some x) (hy : kitB t b = some y) : PySem.W.kitAny K (.type t) [.type a, .type b] = some (x || y) := by
  refine kitAny_cons (b := x) (kit_ty hx) (fun e => kitAny_cons (b := y) (kit_ty hy) (fun e2 => ?_) (fun e2 => ?_)) (fun e => ?_)
  · rw [e, e2]; exact kitAny_nil
  · rw [e2, Bool.or_true]
  · rw [e, Bool.true_or]
section
variable {P : Program} {w : World} {K : PySem.W.Frag} {mg : Str → Option Value} {base : Heap}
theorem all_true (n : Nat) : (List.replicate n true).all id = true := by
  rw [List.all_eq_true]
  intro x hx
  rw [List.eq_of_mem_replicate hx]
  rfl
theorem ok_same {f : Addr} {fd : FuncData} (F : Fun K "_law_same" "_law_same" sSame f fd) (b : Binds K fd ["_law_found", "_law_due"] []) (g : mg "_law_same" = some (.ref f))
    (mis : mg "isinstance" = none) (mls : mg "list" = none) (mt : mg "tuple" = none) (ml : mg "len" = none) (ma : mg "all" = none) (mz : mg "zip" = none) (mst : mg "str" = none) (mb : mg "bool" = none) (mi : mg "int" = none) :
    ∀ n, FnOk P w K mg base CX0 n f fd ["_law_found", "_law_due"] (spSame n) := by
  intro n
  induction n with
  | zero => exact ⟨fun _ _ _ _ h => h.elim, fun _ _ _ _ _ _ _ _ _ _ _ _ _ h => h.elim⟩
  | succ n ih =>
    refine F.ok scSame (fun vs H Q E h => ?_) (fun cdv A outer s H vs Q E hr h => ?_)
    · obtain ⟨u, v, d, rfl, _⟩ := h
      rfl
    · obtain ⟨u, v, d, rfl, hu, hv, hfit, q⟩ := h
      refine ⟨_, pss_cons (ps_if (pt_val (pe_callB call_isiT (by rfl) mis (by decide +kernel) (pa_cons (pv 1) (pa_cons (pe_tup (pa_cons (pe_bltn (v := .ty "list") (by rfl) mls (by decide +kernel) rfl) (pa_cons (pe_bltn (v := .ty "tuple") (by rfl) mt (by decide +kernel) rfl) pa_nil))) pa_nil))))
          (pss_cons (ps_if (PW.pt (pw_or (pt_cmpR op_ne (pe_callB call_isi (by rfl) mis (by decide +kernel) (pa_cons (pv 0) (pa_cons (pe_bltn (v := .ty "list") (by rfl) mls (by decide +kernel) rfl) pa_nil))) (pe_callB call_isi (by rfl) mis (by decide +kernel) (pa_cons (pv 1) (pa_cons (pe_bltn (v := .ty "list") (by rfl) mls (by decide +kernel) rfl) pa_nil))) (nomark _))
              (pw_or1 (pt_cmpR op_ne (pe_callB call_isi (by rfl) mis (by decide +kernel) (pa_cons (pv 0) (pa_cons (pe_bltn (v := .ty "tuple") (by rfl) mt (by decide +kernel) rfl) pa_nil))) (pe_callB call_isi (by rfl) mis (by decide +kernel) (pa_cons (pv 1) (pa_cons (pe_bltn (v := .ty "tuple") (by rfl) mt (by decide +kernel) rfl) pa_nil))) (nomark _)))))
            (pss_one (ps_ret pe_bl)) pss_nil)
          (pss_one (ps_ret (pe_and (pe_cmpR op_eq (pe_callB call_len_seq (by rfl) ml PySem.boot_len (pa_cons (pv 0) pa_nil)) (pe_callB call_len_seq (by rfl) ml PySem.boot_len (pa_cons (pv 1) pa_nil)) (nomark _))
            (pe_one (pe_callB (cr_all rfl) (by rfl) ma (by decide +kernel) (pa_cons (pe_lc (own := [("_law_one", 2), ("_law_other", 3)]) (g := gTup K 2 (gCons (gName 2) (gCons (gName 3) gNil))) (tt := tYes) (te := tCall (spSame n) [] E0 (tCons (tVar 2) (tCons (tVar 3) tNil))) rfl scSame.nd
              (RZ.pi_zipA (by rfl) mz (pa_cons (pv 0) (pa_cons (pv 1) pa_nil))) (blkOk_by (N := nSame) (sc := defScope sSame) (by decide +kernel))
              (fun _ _ _ _ _ => pg_tup rfl (pgs_cons (pg_name (i := 2) scSame.nd rfl (.inl rfl)) (pgs_cons (pg_name (i := 3) scSame.nd rfl (.inl rfl)) pgs_nil))) (fun _ _ _ _ _ => pts_nil)
              (fun _ _ _ _ _ => pe_call ih hr (by rfl) g F.kp b .nil pass0 (pa_cons (pv 2) (pa_cons (pv 3) pa_nil)))) pa_nil))))))) pss_nil)
        (pss_cons (ps_if (PW.pt (pw_or (pt_cmpR op_isN (pv 1) pe_non (nomark _)) (pw_or1 (pt_val (pe_callB call_isiT (by rfl) mis (by decide +kernel) (pa_cons (pv 1) (pa_cons (pe_tup (pa_cons (pe_bltn (v := .ty "str") (by rfl) mst (by decide +kernel) rfl) (pa_cons (pe_bltn (v := .ty "bool") (by rfl) mb (by decide +kernel) rfl) pa_nil))) pa_nil)))))))
          (pss_one (ps_ret (pe_and (pe_cmpR op_eq (pe_callB call_isi (by rfl) mis (by decide +kernel) (pa_cons (pv 0) (pa_cons (pe_bltn (v := .ty "bool") (by rfl) mb (by decide +kernel) rfl) pa_nil))) (pe_callB call_isi (by rfl) mis (by decide +kernel) (pa_cons (pv 1) (pa_cons (pe_bltn (v := .ty "bool") (by rfl) mb (by decide +kernel) rfl) pa_nil))) (nomark _)) (pe_one (pe_cmpR op_eq (pv 0) (pv 1) (nomark _)))))) pss_nil)
        (pss_one (ps_ret (pe_and (pe_callB call_isi (by rfl) mis (by decide +kernel) (pa_cons (pv 0) (pa_cons (pe_bltn (v := .ty "int") (by rfl) mi (by decide +kernel) rfl) pa_nil))) (pe_and (pe_not (pe_callB call_isi (by rfl) mis (by decide +kernel) (pa_cons (pv 0) (pa_cons (pe_bltn (v := .ty "bool") (by rfl) mb (by decide +kernel) rfl) pa_nil)))) (pe_one (pe_cmpR op_eq (pv 0) (pv 1) (nomark _)))))))), ?_⟩
      refine ⟨v, rfl, by show 2 ≤ sizeLine; decide, fun T nT => ?_⟩
      have s1 : Same H (upd H T (.tup [.ty "list", .ty "tuple"])) := same_upd nT
      have hu1 := hu.same s1
      have hv1 := hv.same s1
      have htT := (upd_same : upd H T (.tup [.ty "list", .ty "tuple"]) T = some (.tup [.ty "list", .ty "tuple"]))
      generalize upd H T (.tup [.ty "list", .ty "tuple"]) = H1 at *
      cases hu1 with
      | lst ha hs =>
        rename_i a xs ds
        cases hv1 with
        | lst hb ht =>
          rename_i b' ys
          obtain ⟨n', rfl⟩ : ∃ n', n = n' + 1 := by
            cases n with
            | zero => exact hfit.elim
            | succ n' => exact ⟨n', rfl⟩
          have hl1 := hs.length
          have hl2 := ht.length
          have hf1 : ds.length ≤ 1000 := hfit.1
          refine ⟨_, T, _, .type "list", _, _, rfl, htT, .cons (.ty _) (.cons (.ty _) .nil), .base (.lst hb), kitA (x := true) (y := false) (by decide +kernel) (by decide +kernel), _, rfl, ?_⟩
          refine ⟨.ref a, rfl, _, _, .type "list", _, true, rfl, .ty _, .base (.lst ha), kit_ty (by decide +kernel), .ref b', rfl, _, _, .type "list", _, true, rfl, .ty _, .base (.lst hb), kit_ty (by decide +kernel), rfl, _, rfl, iteNS rfl ?_⟩
          refine ⟨.ref a, rfl, _, _, .type "list", _, false, rfl, .ty _, .base (.lst ha), kit_ty (by decide +kernel), .ref b', rfl, _, _, .type "list", _, false, rfl, .ty _, .base (.lst hb), kit_ty (by decide +kernel), rfl, _, rfl, iteNS rfl ?_⟩
          refine ⟨.ref a, rfl, a, xs, rfl, .inl (SqL.of ha), .ref b', rfl, b', ys, rfl, .inl (SqL.of hb), rfl, _, rfl, ?_⟩
          rw [show decide (V.int (xs.length : Int) = V.int (ys.length : Int)) = true from decide_eq_true (by rw [hl1, hl2])]
          refine ⟨.ref a, rfl, .ref b', rfl, a, b', xs, ys, rfl, .inl ⟨SqL.of ha, SqL.of hb, fun D nD => ?_⟩⟩
          refine lc_it (walk_zip (xs := xs) (ys := ys) rfl) (fun i H3 => Same H1 H3 ∧ H3 D = some (.lst ((List.replicate i true).map V.bl))) ⟨same_upd nD, upd_same⟩ (fun i H3 _ h3 => ⟨SqL.of (h3.1 _ _ ha), SqL.of (h3.1 _ _ hb)⟩) ?_ ?_
          · rintro i x H3 H4 hi ⟨s3, d3⟩ ⟨T2, x1, x2, rfl, nT2, rfl, f1, f2⟩
            obtain ⟨d1, hd1, r1⟩ := hs.get f1
            obtain ⟨d2, hd2, r2⟩ := ht.get f2
            rw [hd1] at hd2
            cases hd2
            have sT : Same H3 (upd H3 T2 (.tup [x1, x2])) := same_upd nT2
            refine ⟨T2, _, rfl, SqT.of upd_same, rfl, _, _, rfl, _, _, rfl, rfl, rfl, x1, rfl, x2, rfl, x1, x2, d1, rfl, r1.same (Same.trans s3 sT), r2.same (Same.trans s3 sT), hfit.2 d1 (List.mem_of_getElem? hd1), fun H5 s5 => ?_⟩
            have d5 := s5 _ _ (sT _ _ d3)
            refine ⟨_, d5, ?_, fun c o e => ?_, ?_⟩
            · rw [List.length_map, List.length_replicate]
              exact small1000 (by omega)
            · rw [upd_ne (fun z => by subst z; rw [nD] at e; cases e)]
              exact s5 _ _ (sT _ _ (s3 _ _ e))
            · rw [upd_same, List.replicate_succ', List.map_append]
              rfl
          · rintro H3 ⟨s3, d3⟩
            refine ⟨D, _, rfl, SqL.of d3, ?_⟩
            rw [all_true]
            exact q _ (Same.trans s1 s3)
      | tup ha hs =>
        rename_i a xs ds
        cases hv1 with
        | tup hb ht =>
          rename_i b' ys
          obtain ⟨n', rfl⟩ : ∃ n', n = n' + 1 := by
            cases n with
            | zero => exact hfit.elim
            | succ n' => exact ⟨n', rfl⟩
          have hl1 := hs.length
          have hl2 := ht.length
          have hf1 : ds.length ≤ 1000 := hfit.1
          refine ⟨_, T, _, .type "tuple", _, _, rfl, htT, .cons (.ty _) (.cons (.ty _) .nil), .base (.tup hb), kitA (x := false) (y := true) (by decide +kernel) (by decide +kernel), _, rfl, ?_⟩
          refine ⟨.ref a, rfl, _, _, .type "tuple", _, false, rfl, .ty _, .base (.tup ha), kit_ty (by decide +kernel), .ref b', rfl, _, _, .type "tuple", _, false, rfl, .ty _, .base (.tup hb), kit_ty (by decide +kernel), rfl, _, rfl, iteNS rfl ?_⟩
          refine ⟨.ref a, rfl, _, _, .type "tuple", _, true, rfl, .ty _, .base (.tup ha), kit_ty (by decide +kernel), .ref b', rfl, _, _, .type "tuple", _, true, rfl, .ty _, .base (.tup hb), kit_ty (by decide +kernel), rfl, _, rfl, iteNS rfl ?_⟩
          refine ⟨.ref a, rfl, a, xs, rfl, .inr (SqT.of ha), .ref b', rfl, b', ys, rfl, .inr (SqT.of hb), rfl, _, rfl, ?_⟩
          rw [show decide (V.int (xs.length : Int) = V.int (ys.length : Int)) = true from decide_eq_true (by rw [hl1, hl2])]
          refine ⟨.ref a, rfl, .ref b', rfl, a, b', xs, ys, rfl, .inr ⟨SqT.of ha, SqT.of hb, fun D nD => ?_⟩⟩
          refine lc_it (walk_zipT (xs := xs) (ys := ys) rfl) (fun i H3 => Same H1 H3 ∧ H3 D = some (.lst ((List.replicate i true).map V.bl))) ⟨same_upd nD, upd_same⟩ (fun i H3 _ h3 => ⟨SqT.of (h3.1 _ _ ha), SqT.of (h3.1 _ _ hb)⟩) ?_ ?_
          · rintro i x H3 H4 hi ⟨s3, d3⟩ ⟨T2, x1, x2, rfl, nT2, rfl, f1, f2⟩
            obtain ⟨d1, hd1, r1⟩ := hs.get f1
            obtain ⟨d2, hd2, r2⟩ := ht.get f2
            rw [hd1] at hd2
            cases hd2
            have sT : Same H3 (upd H3 T2 (.tup [x1, x2])) := same_upd nT2
            refine ⟨T2, _, rfl, SqT.of upd_same, rfl, _, _, rfl, _, _, rfl, rfl, rfl, x1, rfl, x2, rfl, x1, x2, d1, rfl, r1.same (Same.trans s3 sT), r2.same (Same.trans s3 sT), hfit.2 d1 (List.mem_of_getElem? hd1), fun H5 s5 => ?_⟩
            have d5 := s5 _ _ (sT _ _ d3)
            refine ⟨_, d5, ?_, fun c o e => ?_, ?_⟩
            · rw [List.length_map, List.length_replicate]
              exact small1000 (by omega)
            · rw [upd_ne (fun z => by subst z; rw [nD] at e; cases e)]
              exact s5 _ _ (sT _ _ (s3 _ _ e))
            · rw [upd_same, List.replicate_succ', List.map_append]
              rfl
          · rintro H3 ⟨s3, d3⟩
            refine ⟨D, _, rfl, SqL.of d3, ?_⟩
            rw [all_true]
            exact q _ (Same.trans s1 s3)
      | non =>
        cases hv1
        refine ⟨_, T, _, .type "NoneType", _, _, rfl, htT, .cons (.ty _) (.cons (.ty _) .nil), .base .non, kitA (x := false) (y := false) (by decide +kernel) (by decide +kernel), _, rfl, ?_⟩
        refine ⟨_, rfl, rfl, _, rfl, ?_⟩
        refine ⟨_, rfl, _, _, .type "NoneType", _, false, rfl, .ty _, .base .non, kit_ty (by decide +kernel), _, rfl, _, _, .type "NoneType", _, false, rfl, .ty _, .base .non, kit_ty (by decide +kernel), rfl, _, rfl, ?_⟩
        refine ⟨_, rfl, _, rfl, rfl, ?_⟩
        exact q _ s1
      | bl x =>
        cases hv1
        refine ⟨_, T, _, .type "bool", _, _, rfl, htT, .cons (.ty _) (.cons (.ty _) .nil), .base (.bl _), kitA (x := false) (y := false) (by decide +kernel) (by decide +kernel), _, rfl, ?_⟩
        refine ⟨_, rfl, rfl, _, rfl, ?_⟩
        refine ⟨_, rfl, by show 2 ≤ sizeLine; decide, fun T2 nT2 => ?_⟩
        refine ⟨_, T2, _, .type "bool", _, _, rfl, upd_same, .cons (.ty _) (.cons (.ty _) .nil), .base (.bl _), kitA (x := false) (y := true) (by decide +kernel) (by decide +kernel), _, rfl, ?_⟩
        refine ⟨_, rfl, _, _, .type "bool", _, true, rfl, .ty _, .base (.bl _), kit_ty (by decide +kernel), _, rfl, _, _, .type "bool", _, true, rfl, .ty _, .base (.bl _), kit_ty (by decide +kernel), rfl, _, rfl, ?_⟩
        refine ⟨_, rfl, _, rfl, rfl, ?_⟩
        rw [decide_eq_true rfl]
        exact q _ (Same.trans s1 (same_upd nT2))
      | str x =>
        cases hv1
        refine ⟨_, T, _, .type "str", _, _, rfl, htT, .cons (.ty _) (.cons (.ty _) .nil), .base (.str _), kitA (x := false) (y := false) (by decide +kernel) (by decide +kernel), _, rfl, ?_⟩
        refine ⟨_, rfl, rfl, _, rfl, ?_⟩
        refine ⟨_, rfl, by show 2 ≤ sizeLine; decide, fun T2 nT2 => ?_⟩
        refine ⟨_, T2, _, .type "str", _, _, rfl, upd_same, .cons (.ty _) (.cons (.ty _) .nil), .base (.str _), kitA (x := true) (y := false) (by decide +kernel) (by decide +kernel), _, rfl, ?_⟩
        refine ⟨_, rfl, _, _, .type "str", _, false, rfl, .ty _, .base (.str _), kit_ty (by decide +kernel), _, rfl, _, _, .type "str", _, false, rfl, .ty _, .base (.str _), kit_ty (by decide +kernel), rfl, _, rfl, ?_⟩
        refine ⟨_, rfl, _, rfl, rfl, ?_⟩
        rw [decide_eq_true rfl]
        exact q _ (Same.trans s1 (same_upd nT2))
      | int x =>
        cases hv1
        refine ⟨_, T, _, .type "int", _, _, rfl, htT, .cons (.ty _) (.cons (.ty _) .nil), .base (.int _), kitA (x := false) (y := false) (by decide +kernel) (by decide +kernel), _, rfl, ?_⟩
        refine ⟨_, rfl, rfl, _, rfl, ?_⟩
        refine ⟨_, rfl, by show 2 ≤ sizeLine; decide, fun T2 nT2 => ?_⟩
        refine ⟨_, T2, _, .type "int", _, _, rfl, upd_same, .cons (.ty _) (.cons (.ty _) .nil), .base (.int _), kitA (x := false) (y := false) (by decide +kernel) (by decide +kernel), _, rfl, ?_⟩
        refine ⟨_, rfl, _, _, .type "int", _, true, rfl, .ty _, .base (.int _), kit_ty (by decide +kernel), _, rfl, ?_⟩
        refine ⟨_, rfl, _, _, .type "int", _, false, rfl, .ty _, .base (.int _), kit_ty (by decide +kernel), _, rfl, _, rfl, ?_⟩
        refine ⟨_, rfl, _, rfl, rfl, ?_⟩
        rw [decide_eq_true rfl]
        exact q _ (Same.trans s1 (same_upd nT2))
end
end Sg

namespace Sg
open PySem PySem.Spec PyProof.Rows L2
/-! ### the mathematics of settings -/
def stepM (acc : List (List Str)) (ws : List Str) : List (List Str) := acc.flatMap fun s => ws.map fun w => s ++ [w]
def settingsM (c : List (List Str)) : List (List Str) := c.foldl stepM [[]]
theorem stepM_len (acc : List (List Str)) (ws : List Str) : (stepM acc ws).length = acc.length * ws.length := by
  unfold stepM
  induction acc with
  | nil => simp
  | cons s r ih =>
    rw [List.flatMap_cons, List.length_append, ih, List.length_map, List.length_cons, Nat.succ_mul, Nat.add_comm]
theorem settingsM_succ (c : List (List Str)) (i : Nat) (h : i < c.length) : settingsM (c.take (i + 1)) = stepM (settingsM (c.take i)) c[i] := by
  unfold settingsM
  rw [List.take_succ_eq_append_getElem h, List.foldl_append]
  rfl
theorem settingsM_len {c : List (List Str)} (h : ∀ ws ∈ c, ws.length ≤ 4) : ∀ i, i ≤ c.length → (settingsM (c.take i)).length ≤ 4 ^ i
  | 0, _ => by simp [settingsM]
  | i + 1, hi => by
    rw [settingsM_succ c i hi, stepM_len, Nat.pow_succ]
    exact Nat.mul_le_mul (settingsM_len h i (by omega)) (h _ (List.getElem_mem hi))
theorem pow4 {i : Nat} (h : i ≤ 4) : 4 ^ i ≤ 256 := by
  have : i = 0 ∨ i = 1 ∨ i = 2 ∨ i = 3 ∨ i = 4 := by omega
  rcases this with rfl | rfl | rfl | rfl | rfl <;> decide
theorem pow43 {i : Nat} (h : i < 4) : 4 ^ i ≤ 64 := by
  have : i = 0 ∨ i = 1 ∨ i = 2 ∨ i = 3 := by omega
  rcases this with rfl | rfl | rfl | rfl <;> decide
theorem settingsM_each {c : List (List Str)} : ∀ i, i ≤ c.length → ∀ s ∈ settingsM (c.take i), s.length = i
  | 0, _, s, h => by
    have : s = [] := by simpa [settingsM] using h
    rw [this]
    rfl
  | i + 1, hi, s, h => by
    rw [settingsM_succ c i hi] at h
    unfold stepM at h
    obtain ⟨a, ha, hs⟩ := List.mem_flatMap.mp h
    obtain ⟨w, _, rfl⟩ := List.mem_map.mp hs
    rw [List.length_append, settingsM_each i (by omega) a ha]
    rfl
theorem flat_succ {α β : Type} (f : α → List β) (xs : List α) (i : Nat) (h : i < xs.length) : (xs.take (i + 1)).flatMap f = (xs.take i).flatMap f ++ f xs[i] := by
  rw [List.take_succ_eq_append_getElem h, List.flatMap_append, List.flatMap_cons, List.flatMap_nil, List.append_nil]
theorem flat_len_le (acc : List (List Str)) (ws : List Str) (i : Nat) : ((acc.take i).flatMap fun s => ws.map fun w => s ++ [w]).length ≤ acc.length * ws.length := by
  have e := stepM_len (acc.take i) ws
  unfold stepM at e
  rw [e]
  exact Nat.mul_le_mul (by rw [List.length_take]; exact Nat.min_le_right _ _) (Nat.le_refl _)
/-! ### loops, whatever their bodies are -/
theorem out_it {J : It} {n : Nat} {G : Hp → Prop} {Y : Nat → Hp → V → Hp → Prop} (w : Walk J n G Y) {B : (Hp → Prop) → Nat → V → Hp → Hp → Prop} {H1 : Hp} {Qd : Hp → Prop} (Pv : Nat → Hp → Prop) (h0 : Pv 0 H1) (hG : ∀ i H, i ≤ n → Pv i H → G H)
    (hs : ∀ i x H H', i < n → Pv i H → Y i H x H' → B (Pv (i + 1)) i x H H') (hd : ∀ H, Pv n H → Qd H) :
    ∃ W : Nat → Nat → Hp → Prop, (∃ m, W 0 m H1) ∧ ∀ i m H, W i m H → (J.stop i H ∧ Qd H) ∨ (J.go i H ∧ ∃ Nx : Hp → Prop, (∀ H', Nx H' → ∃ m', m' < m ∧ W (i + 1) m' H') ∧ ∀ x H', J.yld i H x H' → B Nx i x H H') := by
  refine ⟨fun i m H => m = n - i ∧ i ≤ n ∧ Pv i H, ⟨n, by simp, Nat.zero_le _, h0⟩, ?_⟩
  rintro i m H ⟨rfl, hi, p⟩
  have q := hG i H hi p
  by_cases hlt : i < n
  · exact .inr ⟨w.goes i H hlt q, Pv (i + 1), fun H' p' => ⟨n - (i + 1), by omega, rfl, hlt, p'⟩, fun x H' y => hs i x H H' hlt p (w.yields i H x H' hlt q y)⟩
  · have e : i = n := by omega
    subst e
    exact .inl ⟨w.stops H q, hd H p⟩
abbrev sSettingsIn : Stmt := topS 1
abbrev nSettingsIn : List Str := ["case", "settings", "words", "setting", "word"]
theorem scSettingsIn : FnScope nSettingsIn ["case"] (defScope sSettingsIn) := ⟨rfl, rfl, rfl, by decide +kernel, rfl, by decide +kernel, by decide +kernel⟩
def spSettings : Sp := fun vs H Q _ => ∃ (v : V) (c : List (List Str)), vs = [v] ∧ Rp H v (dC c) ∧ COk c ∧ ∀ (p : Addr) (H' : Hp), Same H H' → H p = none → Rp H' (.ref p) (.list ((settingsM c).map dW)) → Q (.ref p) H'
theorem RpAll.snoc {H : Hp} {D : Addr} {us : List V} {p : Addr} {ss : List (List Str)} {ws : List Str} (d : H D = some (.lst us)) (h : RpAll H us (ss.map dW)) (hp : H p = some (.tup (ws.map V.str))) : RpAll (upd H D (.lst (us ++ [.ref p]))) (us ++ [.ref p]) ((ss ++ [ws]).map dW) := by
  rw [List.map_append]
  have kT : KeepT H (upd H D (.lst (us ++ [.ref p]))) := keepT_lst d
  exact (h.keep kT (immAll_map imm_dW ss)).append (.cons ((Rp.dW_mk hp).keep kT (imm_dW ws)) .nil)
section
variable {P : Program} {w : World} {K : PySem.W.Frag} {mg : Str → Option Value} {base : Heap}
theorem ok_settings_in {f : Addr} {fd : FuncData} {k : Nat} (F : Fun K "settings_in" "settings_in" sSettingsIn f fd) : FnOk P w K mg base CX0 (k + 1) f fd ["case"] spSettings := by
  refine F.ok scSettingsIn (fun vs H Q E h => ?_) (fun cdv A outer s H vs Q E hr h => ?_)
  · obtain ⟨v, c, rfl, _⟩ := h
    rfl
  · obtain ⟨v, c, rfl, hv, hc, q⟩ := h
    refine ⟨_, pss_cons (ps_set (i := 1) scSettingsIn.nd rfl (.inl rfl) (pe_lst (pa_cons (pe_tup pa_nil) pa_nil)))
      (pss_cons (ps_for PassesOwn.never rfl (pi_tup (pv 0)) (pg_name (i := 2) scSettingsIn.nd rfl (.inr rfl))
        (pss_one (ps_setLc2 (i := 1) (own := [("setting", 3), ("word", 4)]) (vs1 := [4]) (g := gName 3) (tt := tYes) (wi1 := iTup K (tVar 2)) (g1 := gName 4) (tt1 := tYes) (te := tOp (rCatA K) (tVar 3) (tTup (tCons (tVar 4) tNil))) rfl scSettingsIn.nd rfl rfl (sw_true rfl rfl rfl (by decide +kernel)) (pi_list (pv 1)) (blkOk_by (N := nSettingsIn) (sc := defScope sSettingsIn) (by decide +kernel)) (by decide)
          (fun _ _ _ _ _ => pg_name (i := 3) scSettingsIn.nd rfl (.inl rfl)) (fun _ _ _ _ _ => pts_nil) (fun _ _ _ _ _ => pi_tup (pv 2)) (fun _ _ _ _ _ => pg_name (i := 4) scSettingsIn.nd rfl (.inl rfl)) (fun _ _ _ _ _ => pts_nil)
          (fun _ _ _ _ _ => pe_op op_catA (pv 3) (pe_tup (pa_cons (pv 4) pa_nil))))))
      (pss_one (ps_ret (pv 1)))), ?_⟩
    refine ⟨Nat.zero_le _, fun t0 nt0 => ⟨by show 1 ≤ sizeLine; decide, fun l0 nl0 => ?_⟩⟩
    have s0 : Same H (upd (upd H t0 (.tup [])) l0 (.lst [.ref t0])) := Same.trans (same_upd nt0) (same_upd nl0)
    have nl0H : H l0 = none := (same_upd nt0).free nl0
    have nlt0 : t0 ≠ l0 := fun e => by
      subst e
      rw [upd_same] at nl0
      cases nl0
    unfold dC at hv
    cases hv with
    | tup ha hs =>
      rename_i a vs
      have hlen := hs.length
      rw [List.length_map] at hlen
      refine ⟨.ref a, rfl, a, rfl, ⟨vs, SqT.of (s0 _ _ ha)⟩, ?_⟩
      refine for_it (walk_tup (xs := vs)) (fun i σ H3 => ∃ (y2 : Option V) (l : Addr) (us : List V), σ = [some (.ref a), some (.ref l), y2, none, none] ∧ Same H H3 ∧ H l = none ∧ H3 l = some (.lst us) ∧ RpAll H3 us ((settingsM (c.take i)).map dW)) ?_ ?_ ?_ ?_
      · refine ⟨none, l0, [.ref t0], rfl, s0, nl0H, upd_same, ?_⟩
        show RpAll _ [.ref t0] [dW []]
        refine .cons (Rp.dW_mk ?_) .nil
        rw [upd_ne nlt0, upd_same]
        rfl
      · rintro i σ H3 _ ⟨y2, l, us, rfl, s3, _⟩
        exact SqT.of (s3 _ _ ha)
      · rintro i x σ H4 H3 hi ⟨y2, l, us, rfl, s3, nl, d3, r3⟩ ⟨rfl, fx⟩
        obtain ⟨d, hd, hx⟩ := hs.get fx
        have hic : i < c.length := by omega
        rw [List.getElem?_map, List.getElem?_eq_getElem hic] at hd
        cases hd
        obtain ⟨b, rfl, hb⟩ := (hx.same s3).dW_inv
        have hlw : c[i].length ≤ 4 := (hc.2 _ (List.getElem_mem hic)).2.1
        have hS := settingsM_len (fun ws hw => (hc.2 ws hw).2.1) i (by omega)
        have h4 := pow43 (i := i) (by have := hc.1; omega)
        have hE := settingsM_each (c := c) i (by omega)
        generalize hss : settingsM (c.take i) = ss at *
        have hlu := r3.length
        rw [List.length_map] at hlu
        have hmul : ss.length * c[i].length ≤ 64 * 4 := Nat.mul_le_mul (by omega) hlw
        refine ⟨.ref l, rfl, l, rfl, ⟨us, SqL.of d3⟩, fun D nD => ?_⟩
        have nDH : H D = none := s3.free nD
        refine out_it (walk_list (xs := us)) (fun j H5 => ∃ ts : List V, Same H3 H5 ∧ H5 D = some (.lst ts) ∧ RpAll H5 ts (((ss.take j).flatMap fun s => c[i].map fun w => s ++ [w]).map dW)) ⟨[], same_upd nD, upd_same, .nil⟩ ?_ ?_ ?_
        · rintro j H5 _ ⟨ts, s5, _⟩
          exact SqL.of (s5 _ _ d3)
        · rintro j x H6 H5 hj ⟨ts, s5, d5, r5⟩ ⟨rfl, fy⟩
          obtain ⟨dd, hdd, hx2⟩ := r3.get fy
          have hjs : j < ss.length := by omega
          rw [List.getElem?_map, List.getElem?_eq_getElem hjs] at hdd
          cases hdd
          obtain ⟨g, rfl, hg⟩ := hx2.dW_inv
          refine ⟨rfl, .ref b, rfl, b, rfl, ⟨_, SqT.of (s5 _ _ hb)⟩, ?_⟩
          refine out_it (walk_tup (xs := c[i].map V.str)) (fun m H7 => ∃ ts : List V, Same H3 H7 ∧ H7 D = some (.lst ts) ∧ RpAll H7 ts ((((ss.take j).flatMap fun s => c[i].map fun w => s ++ [w]) ++ ((c[i].take m).map fun w => ss[j] ++ [w])).map dW)) ⟨ts, s5, d5, ?_⟩ ?_ ?_ ?_
          · rw [List.take_zero, List.map_nil, List.append_nil]
            exact r5
          · rintro m H7 _ ⟨ts, s7, _⟩
            exact SqT.of (s7 _ _ hb)
          · rintro m x H8 H7 hm ⟨ts, s7, d7, r7⟩ ⟨rfl, fz⟩
            rw [List.length_map] at hm
            rw [List.getElem?_map, List.getElem?_eq_getElem hm] at fz
            cases fz
            have hts := r7.length
            have hfl := flat_len_le ss c[i] j
            rw [List.length_map, List.length_append, List.length_map, List.length_take] at hts
            have e1 : (c[i].take (m + 1)).map (fun w => ss[j] ++ [w]) = (c[i].take m).map (fun w => ss[j] ++ [w]) ++ [ss[j] ++ [c[i][m]]] := by
              rw [List.take_succ_eq_append_getElem hm, List.map_append]
              rfl
            refine ⟨rfl, .ref g, rfl, .str c[i][m], rfl, by show 1 ≤ sizeLine; decide, fun p np => ?_⟩
            have sp : Same H7 (upd H7 p (.tup [.str c[i][m]])) := same_upd np
            refine ⟨g, p, ss[j].map V.str, [.str c[i][m]], rfl, rfl, SqT.of (sp _ _ (s7 _ _ hg)), SqT.of upd_same, ?_, fun e0 => ?_, (fun _ e => nomatch e), fun e0 _ => fun p2 np2 => ?_⟩
            · have hej := hE _ (List.getElem_mem hjs)
              have := hc.1
              rw [List.length_map, hej]
              exact sz _ (by simp; omega)
            · have hs0 : ss[j] = [] := by simpa using e0
              have d8 := sp _ _ d7
              refine ⟨ts, d8, small1000 (by omega), ts ++ [.ref p], fun a o e => ?_, upd_same, ?_⟩
              · rw [upd_ne (fun z => by subst z; rw [nD] at e; cases e)]
                exact sp _ _ (s7 _ _ e)
              · rw [e1, ← List.append_assoc]
                refine RpAll.snoc d8 (r7.same sp) ?_
                rw [hs0]
                exact upd_same
            · have sp2 := Same.trans sp (same_upd (o := .tup (ss[j].map V.str ++ [.str c[i][m]])) np2)
              have d8 := sp2 _ _ d7
              refine ⟨ts, d8, small1000 (by omega), ts ++ [.ref p2], fun a o e => ?_, upd_same, ?_⟩
              · rw [upd_ne (fun z => by subst z; rw [nD] at e; cases e)]
                exact sp2 _ _ (s7 _ _ e)
              · rw [e1, ← List.append_assoc]
                refine RpAll.snoc d8 (r7.same sp2) ?_
                rw [List.map_append]
                exact upd_same
          · rintro H7 ⟨ts, s7, d7, r7⟩
            refine ⟨ts, s7, d7, ?_⟩
            rw [flat_succ _ _ _ hjs]
            rw [List.length_map, List.take_length] at r7
            exact r7
        · rintro H5 ⟨ts, s5, d5, r5⟩
          refine ⟨some (.ref b), D, ts, rfl, Same.trans s3 s5, nDH, d5, ?_⟩
          rw [settingsM_succ c i hic, hss]
          rw [hlu, List.take_length] at r5
          exact r5
      · rintro σ H3 ⟨y2, l, us, rfl, s3, nl, d3, r3⟩
        rw [hlen, List.take_length] at r3
        exact ⟨.ref l, rfl, q _ _ s3 nl (.lst d3 r3)⟩
end
end Sg

namespace Sg
open PySem PySem.Spec PyProof.Rows L2
abbrev sLSettings : Stmt := topS 14
abbrev nLSettings : List Str := ["_law_some", "_law_found", "_law_words", "_law_longer", "_law_ahead", "_law_word"]
theorem scLSettings : FnScope nLSettings ["_law_some"] (defScope sLSettings) := ⟨rfl, rfl, rfl, by decide +kernel, rfl, by decide +kernel, by decide +kernel⟩
/-- w is one of os -/
def isIn (os : List Str) (w : Str) : Bool := inV (V.str w) (os.map V.str)
theorem all_flat (os : List Str) : (os.map V.str).all flatV = true := by
  rw [List.all_eq_true]
  intro x hx
  obtain ⟨w, _, rfl⟩ := List.mem_map.mp hx
  rfl
theorem filter_succ {α : Type} (p : α → Bool) (xs : List α) (i : Nat) (h : i < xs.length) : (xs.take (i + 1)).filter p = (xs.take i).filter p ++ (if p xs[i] = true then [xs[i]] else []) := by
  rw [List.take_succ_eq_append_getElem h, List.filter_append]
  congr 1
  by_cases e : p xs[i] = true
  · rw [if_pos e, List.filter_cons_of_pos e]
    rfl
  · rw [if_neg e, List.filter_cons_of_neg e]
    rfl
/-- [w for w in ws if ..], ws a tuple of texts -/
theorem filt_lc {K : PySem.W.Frag} {a : Addr} {ws : List Str} (p : Str → Bool) {σ : L2.St} {vs : List Nat} {slot : Nat} {tt : TT} {H1 : Hp} {D : Addr} {Qd : Hp → Prop} (nD : H1 D = none) (ha : H1 a = some (.tup (ws.map V.str))) (hlen : ws.length ≤ 1000)
    (hw : ∀ x : V, wipe ((wipe σ vs).set slot (some x)) vs = wipe σ vs) (hv : ∀ x : V, ((wipe σ vs).set slot (some x))[slot]? = some (some x))
    (ht : ∀ (i : Nat) (h : i < ws.length) (H2 : Hp) (Q : Bool → Hp → Prop), Same H1 H2 → Q (p ws[i]) H2 → tt ((wipe σ vs).set slot (some (.str ws[i]))) H2 Q)
    (hd : ∀ H', Same H1 H' → H' D = some (.lst ((ws.filter p).map V.str)) → Qd H') :
    ∃ W : Nat → Nat → Hp → Prop, (∃ m, W 0 m (upd H1 D (.lst []))) ∧ ∀ i m H, W i m H →
      ((Itt K a).stop i H ∧ Qd H) ∨ ((Itt K a).go i H ∧ ∃ Nx : Hp → Prop, (∀ H', Nx H' → ∃ m', m' < m ∧ W (i + 1) m' H') ∧ ∀ x H', (Itt K a).yld i H x H' → gName slot x (wipe σ vs) H' fun σ2 H2 => wipe σ2 vs = wipe σ vs ∧ tt σ2 H2 fun b H3 =>
        if b = true then tVar slot σ2 H3 fun y H4 => ∃ acc, H4 D = some (.lst acc) ∧ acc.length < sizeLine ∧ Nx (upd H4 D (.lst (acc ++ [y]))) else Nx H3) := by
  refine lc_it (walk_tup (xs := ws.map V.str)) (fun i H3 => Same H1 H3 ∧ H3 D = some (.lst (((ws.take i).filter p).map V.str))) ⟨same_upd nD, upd_same⟩ (fun i H3 _ h3 => SqT.of (h3.1 _ _ ha)) ?_ ?_
  · rintro i x H4 H3 hi ⟨s3, d3⟩ ⟨rfl, fx⟩
    rw [List.length_map] at hi
    rw [List.getElem?_map, List.getElem?_eq_getElem hi] at fx
    cases fx
    refine ⟨hw _, ht i hi _ _ s3 ?_⟩
    have e := filter_succ p ws i hi
    by_cases hp : p ws[i] = true
    · rw [if_pos hp] at e ⊢
      refine ⟨_, hv _, _, d3, ?_, fun b o eb => ?_, ?_⟩
      · rw [List.length_map]
        have h1 : ((ws.take i).filter p).length ≤ (ws.take i).length := List.length_filter_le _ _
        rw [List.length_take] at h1
        exact small1000 (by omega)
      · rw [upd_ne (fun z => by subst z; rw [nD] at eb; cases eb)]
        exact s3 _ _ eb
      · rw [upd_same, e, List.map_append]
        rfl
    · rw [if_neg hp] at e ⊢
      refine ⟨s3, ?_⟩
      rw [e, List.append_nil]
      exact d3
  · rintro H3 ⟨s3, d3⟩
    rw [List.length_map, List.take_length] at d3
    exact hd _ s3 d3
/-- a list or a tuple that a name holds is walked -/
def iAny (K : PySem.W.Frag) (i : Nat) : TI := fun σ H R => ∃ v, σ[i]? = some (some v) ∧ ∃ a, v = .ref a ∧ (((∃ xs, SqL K H a xs) ∧ R (Itl K a) H) ∨ ((∃ xs, SqT K H a xs) ∧ R (Itt K a) H))
theorem pi_any {X : Cx} {tg l : Expr} {i : Nat} (hl : PE X l (tVar i)) : PI X tg l (iAny X.K i) := by
  refine ⟨fun pins s σ H R I h => ?_⟩
  obtain ⟨v, hv, a, e, h | h⟩ := h
  · exact (pi_list hl).run pins s σ H R I ⟨v, hv, a, e, h.1, h.2⟩
  · exact (pi_tup hl).run pins s σ H R I ⟨v, hv, a, e, h.1, h.2⟩
def spSettingsA : Sp := fun vs H Q _ => ∃ (v : V) (c : List (List Str)), vs = [v] ∧ (Rp H v (dC c) ∨ Rp H v (.list (c.map dW))) ∧ COk c ∧ ∀ (p : Addr) (H' : Hp), Same H H' → H p = none → Rp H' (.ref p) (.list ((settingsM c).map dW)) → Q (.ref p) H'
section
variable {P : Program} {w : World} {K : PySem.W.Frag} {mg : Str → Option Value} {base : Heap}
/-! ### the law's settings -/
theorem ok_lsettings {f : Addr} {fd : FuncData} {k : Nat} (F : Fun K "_law_settings" "_law_settings" sLSettings f fd) : FnOk P w K mg base CX0 (k + 1) f fd ["_law_some"] spSettingsA := by
  refine F.ok scLSettings (fun vs H Q E h => ?_) (fun cdv A outer s H vs Q E hr h => ?_)
  · obtain ⟨v, c, rfl, _⟩ := h
    rfl
  · obtain ⟨v, c, rfl, hv, hc, q⟩ := h
    refine ⟨_, pss_cons (ps_set (i := 1) scLSettings.nd rfl (.inl rfl) (pe_lst (pa_cons (pe_tup pa_nil) pa_nil)))
      (pss_cons (ps_for PassesOwn.never rfl (pi_any (pv 0)) (pg_name (i := 2) scLSettings.nd rfl (.inl rfl))
        (pss_cons (ps_set (i := 3) scLSettings.nd rfl (.inl rfl) (pe_lst pa_nil))
        (pss_cons (ps_for PassesOwn.never rfl (pi_list (pv 1)) (pg_name (i := 4) scLSettings.nd rfl (.inr rfl))
          (pss_one (ps_expr (pe_bm PySem.F.plainAttrs_list PySem.F.slot_list_extend PySem.F.type_list_extend mt_extend (pv 3) (pa_cons (pe_lc (own := [("_law_word", 5)]) (g := gName 5) (tt := tYes) (te := tOp (rCatA K) (tVar 4) (tTup (tCons (tVar 5) tNil))) rfl scLSettings.nd (pi_tup (pv 2)) (blkOk_by (N := nLSettings) (sc := defScope sLSettings) (by decide +kernel))
            (fun _ _ _ _ _ => pg_name (i := 5) scLSettings.nd rfl (.inl rfl)) (fun _ _ _ _ _ => pts_nil) (fun _ _ _ _ _ => pe_op op_catA (pv 4) (pe_tup (pa_cons (pv 5) pa_nil)))) pa_nil)))))
        (pss_one (ps_set (i := 1) scLSettings.nd rfl (.inl rfl) (pv 3))))))
      (pss_one (ps_ret (pv 1)))), ?_⟩
    refine ⟨Nat.zero_le _, fun t0 nt0 => ⟨by show 1 ≤ sizeLine; decide, fun l0 nl0 => ?_⟩⟩
    have s0 : Same H (upd (upd H t0 (.tup [])) l0 (.lst [.ref t0])) := Same.trans (same_upd nt0) (same_upd nl0)
    have nl0H : H l0 = none := (same_upd nt0).free nl0
    have nlt0 : t0 ≠ l0 := fun e => by
      subst e
      rw [upd_same] at nl0
      cases nl0
    rcases hv with hv | hv
    · unfold dC at hv
      cases hv with
      | tup ha hs =>
        rename_i a vs
        have hlen := hs.length
        rw [List.length_map] at hlen
        refine ⟨.ref a, rfl, a, rfl, .inr ⟨⟨vs, SqT.of (s0 _ _ ha)⟩, ?_⟩⟩
        refine for_it (walk_tup (xs := vs)) (fun i σ H3 => ∃ (y2 y3 y4 : Option V) (l : Addr) (us : List V), σ = [some (.ref a), some (.ref l), y2, y3, y4, none] ∧ Same H H3 ∧ H l = none ∧ H3 l = some (.lst us) ∧ RpAll H3 us ((settingsM (c.take i)).map dW)) ?_ ?_ ?_ ?_
        · refine ⟨none, none, none, l0, [.ref t0], rfl, s0, nl0H, upd_same, ?_⟩
          show RpAll _ [.ref t0] [dW []]
          refine .cons (Rp.dW_mk ?_) .nil
          rw [upd_ne nlt0, upd_same]
          rfl
        · rintro i σ H3 _ ⟨y2, y3, y4, l, us, rfl, s3, _⟩
          exact SqT.of (s3 _ _ ha)
        · rintro i x σ H4 H3 hi ⟨y2, y3, y4, l, us, rfl, s3, nl, d3, r3⟩ ⟨rfl, fx⟩
          obtain ⟨d, hd, hx⟩ := hs.get fx
          have hic : i < c.length := by omega
          rw [List.getElem?_map, List.getElem?_eq_getElem hic] at hd
          cases hd
          obtain ⟨b, rfl, hb⟩ := (hx.same s3).dW_inv
          have hlw : c[i].length ≤ 4 := (hc.2 _ (List.getElem_mem hic)).2.1
          have hS := settingsM_len (fun ws hw => (hc.2 ws hw).2.1) i (by omega)
          have h4 := pow43 (i := i) (by have := hc.1; omega)
          have hE := settingsM_each (c := c) i (by omega)
          generalize hss : settingsM (c.take i) = ss at *
          have hlu := r3.length
          rw [List.length_map] at hlu
          have hmul : ss.length * c[i].length ≤ 64 * 4 := Nat.mul_le_mul (by omega) hlw
          refine ⟨Nat.zero_le _, fun lg nlg => ?_⟩
          have nlgH : H lg = none := s3.free nlg
          have sg : Same H3 (upd H3 lg (.lst [])) := same_upd nlg
          refine ⟨.ref l, rfl, l, rfl, ⟨us, SqL.of (sg _ _ d3)⟩, ?_⟩
          refine for_it (walk_list (xs := us)) (fun j σ H5 => ∃ (y4 : Option V) (ts : List V), σ = [some (.ref a), some (.ref l), some (.ref b), some (.ref lg), y4, none] ∧ Same H3 H5 ∧ H5 lg = some (.lst ts) ∧ RpAll H5 ts (((ss.take j).flatMap fun s => c[i].map fun w => s ++ [w]).map dW)) ⟨_, [], rfl, sg, upd_same, .nil⟩ ?_ ?_ ?_
          · rintro j σ H5 _ ⟨y4, ts, rfl, s5, _⟩
            exact SqL.of (s5 _ _ d3)
          · rintro j x σ H6 H5 hj ⟨y4, ts, rfl, s5, d5, r5⟩ ⟨rfl, fy⟩
            obtain ⟨dd, hdd, hx2⟩ := r3.get fy
            have hjs : j < ss.length := by omega
            rw [List.getElem?_map, List.getElem?_eq_getElem hjs] at hdd
            cases hdd
            obtain ⟨g, rfl, hg⟩ := hx2.dW_inv
            refine ⟨.ref lg, rfl, .inl ⟨rfl, _, SqL.of d5⟩, .ref b, rfl, b, rfl, ⟨_, SqT.of (s5 _ _ hb)⟩, fun D nD => ?_⟩
            have nD3 : H3 D = none := s5.free nD
            refine lc_it (walk_tup (xs := c[i].map V.str)) (fun m H7 => ∃ zs : List V, Same H5 H7 ∧ H7 D = some (.lst zs) ∧ RpAll H7 zs (((c[i].take m).map fun w => ss[j] ++ [w]).map dW)) ⟨[], same_upd nD, upd_same, .nil⟩ ?_ ?_ ?_
            · rintro m H7 _ ⟨zs, s7, _⟩
              exact SqT.of (s7 _ _ (s5 _ _ hb))
            · rintro m x H8 H7 hm ⟨zs, s7, d7, r7⟩ ⟨rfl, fz⟩
              rw [List.length_map] at hm
              rw [List.getElem?_map, List.getElem?_eq_getElem hm] at fz
              cases fz
              have hts := r7.length
              rw [List.length_map, List.length_map, List.length_take] at hts
              have e1 : (c[i].take (m + 1)).map (fun w => ss[j] ++ [w]) = (c[i].take m).map (fun w => ss[j] ++ [w]) ++ [ss[j] ++ [c[i][m]]] := by
                rw [List.take_succ_eq_append_getElem hm, List.map_append]
                rfl
              refine ⟨rfl, .ref g, rfl, .str c[i][m], rfl, by show 1 ≤ sizeLine; decide, fun p np => ?_⟩
              have sp : Same H7 (upd H7 p (.tup [.str c[i][m]])) := same_upd np
              refine ⟨g, p, ss[j].map V.str, [.str c[i][m]], rfl, rfl, SqT.of (sp _ _ (s7 _ _ (s5 _ _ hg))), SqT.of upd_same, ?_, fun e0 => ?_, (fun _ e => nomatch e), fun e0 _ => fun p2 np2 => ?_⟩
              · have hej := hE _ (List.getElem_mem hjs)
                have := hc.1
                rw [List.length_map, hej]
                exact sz _ (by simp; omega)
              · have hs0 : ss[j] = [] := by simpa using e0
                have d8 := sp _ _ d7
                refine ⟨zs, d8, small1000 (by omega), zs ++ [.ref p], fun a o e => ?_, upd_same, ?_⟩
                · rw [upd_ne (fun z => by subst z; rw [nD] at e; cases e)]
                  exact sp _ _ (s7 _ _ e)
                · rw [e1]
                  refine RpAll.snoc d8 (r7.same sp) ?_
                  rw [hs0]
                  exact upd_same
              · have sp2 := Same.trans sp (same_upd (o := .tup (ss[j].map V.str ++ [.str c[i][m]])) np2)
                have d8 := sp2 _ _ d7
                refine ⟨zs, d8, small1000 (by omega), zs ++ [.ref p2], fun a o e => ?_, upd_same, ?_⟩
                · rw [upd_ne (fun z => by subst z; rw [nD] at e; cases e)]
                  exact sp2 _ _ (s7 _ _ e)
                · rw [e1]
                  refine RpAll.snoc d8 (r7.same sp2) ?_
                  rw [List.map_append]
                  exact upd_same
            · rintro H7 ⟨zs, s7, d7, r7⟩
              rw [List.length_map, List.take_length] at r7
              have d8 := s7 _ _ d5
              have hz := r7.length
              have ht := r5.length
              have hfl := flat_len_le ss c[i] j
              rw [List.length_map, List.length_map] at hz
              rw [List.length_map] at ht
              have kT : KeepT H7 (upd H7 lg (.lst (ts ++ zs))) := keepT_lst d8
              refine ⟨lg, D, ts, zs, rfl, rfl, d8, d7, sz _ (by omega), some (.ref g), ts ++ zs, rfl, fun a o e => ?_, upd_same, ?_⟩
              · rw [upd_ne (fun z => by subst z; rw [nlg] at e; cases e)]
                exact s7 _ _ (s5 _ _ e)
              · rw [flat_succ _ _ _ hjs, List.map_append]
                exact ((r5.same s7).keep kT (immAll_map imm_dW _)).append (r7.keep kT (immAll_map imm_dW _))
          · rintro σ H5 ⟨y4, ts, rfl, s5, d5, r5⟩
            refine ⟨.ref lg, rfl, some (.ref b), some (.ref lg), y4, lg, ts, rfl, Same.trans s3 s5, nlgH, d5, ?_⟩
            rw [settingsM_succ c i hic, hss]
            rw [hlu, List.take_length] at r5
            exact r5
        · rintro σ H3 ⟨y2, y3, y4, l, us, rfl, s3, nl, d3, r3⟩
          rw [hlen, List.take_length] at r3
          exact ⟨.ref l, rfl, q _ _ s3 nl (.lst d3 r3)⟩
    · cases hv with
      | lst ha hs =>
        rename_i a vs
        have hlen := hs.length
        rw [List.length_map] at hlen
        refine ⟨.ref a, rfl, a, rfl, .inl ⟨⟨vs, SqL.of (s0 _ _ ha)⟩, ?_⟩⟩
        refine for_it (walk_list (xs := vs)) (fun i σ H3 => ∃ (y2 y3 y4 : Option V) (l : Addr) (us : List V), σ = [some (.ref a), some (.ref l), y2, y3, y4, none] ∧ Same H H3 ∧ H l = none ∧ H3 l = some (.lst us) ∧ RpAll H3 us ((settingsM (c.take i)).map dW)) ?_ ?_ ?_ ?_
        · refine ⟨none, none, none, l0, [.ref t0], rfl, s0, nl0H, upd_same, ?_⟩
          show RpAll _ [.ref t0] [dW []]
          refine .cons (Rp.dW_mk ?_) .nil
          rw [upd_ne nlt0, upd_same]
          rfl
        · rintro i σ H3 _ ⟨y2, y3, y4, l, us, rfl, s3, _⟩
          exact SqL.of (s3 _ _ ha)
        · rintro i x σ H4 H3 hi ⟨y2, y3, y4, l, us, rfl, s3, nl, d3, r3⟩ ⟨rfl, fx⟩
          obtain ⟨d, hd, hx⟩ := hs.get fx
          have hic : i < c.length := by omega
          rw [List.getElem?_map, List.getElem?_eq_getElem hic] at hd
          cases hd
          obtain ⟨b, rfl, hb⟩ := (hx.same s3).dW_inv
          have hlw : c[i].length ≤ 4 := (hc.2 _ (List.getElem_mem hic)).2.1
          have hS := settingsM_len (fun ws hw => (hc.2 ws hw).2.1) i (by omega)
          have h4 := pow43 (i := i) (by have := hc.1; omega)
          have hE := settingsM_each (c := c) i (by omega)
          generalize hss : settingsM (c.take i) = ss at *
          have hlu := r3.length
          rw [List.length_map] at hlu
          have hmul : ss.length * c[i].length ≤ 64 * 4 := Nat.mul_le_mul (by omega) hlw
          refine ⟨Nat.zero_le _, fun lg nlg => ?_⟩
          have nlgH : H lg = none := s3.free nlg
          have sg : Same H3 (upd H3 lg (.lst [])) := same_upd nlg
          refine ⟨.ref l, rfl, l, rfl, ⟨us, SqL.of (sg _ _ d3)⟩, ?_⟩
          refine for_it (walk_list (xs := us)) (fun j σ H5 => ∃ (y4 : Option V) (ts : List V), σ = [some (.ref a), some (.ref l), some (.ref b), some (.ref lg), y4, none] ∧ Same H3 H5 ∧ H5 lg = some (.lst ts) ∧ RpAll H5 ts (((ss.take j).flatMap fun s => c[i].map fun w => s ++ [w]).map dW)) ⟨_, [], rfl, sg, upd_same, .nil⟩ ?_ ?_ ?_
          · rintro j σ H5 _ ⟨y4, ts, rfl, s5, _⟩
            exact SqL.of (s5 _ _ d3)
          · rintro j x σ H6 H5 hj ⟨y4, ts, rfl, s5, d5, r5⟩ ⟨rfl, fy⟩
            obtain ⟨dd, hdd, hx2⟩ := r3.get fy
            have hjs : j < ss.length := by omega
            rw [List.getElem?_map, List.getElem?_eq_getElem hjs] at hdd
            cases hdd
            obtain ⟨g, rfl, hg⟩ := hx2.dW_inv
            refine ⟨.ref lg, rfl, .inl ⟨rfl, _, SqL.of d5⟩, .ref b, rfl, b, rfl, ⟨_, SqT.of (s5 _ _ hb)⟩, fun D nD => ?_⟩
            have nD3 : H3 D = none := s5.free nD
            refine lc_it (walk_tup (xs := c[i].map V.str)) (fun m H7 => ∃ zs : List V, Same H5 H7 ∧ H7 D = some (.lst zs) ∧ RpAll H7 zs (((c[i].take m).map fun w => ss[j] ++ [w]).map dW)) ⟨[], same_upd nD, upd_same, .nil⟩ ?_ ?_ ?_
            · rintro m H7 _ ⟨zs, s7, _⟩
              exact SqT.of (s7 _ _ (s5 _ _ hb))
            · rintro m x H8 H7 hm ⟨zs, s7, d7, r7⟩ ⟨rfl, fz⟩
              rw [List.length_map] at hm
              rw [List.getElem?_map, List.getElem?_eq_getElem hm] at fz
              cases fz
              have hts := r7.length
              rw [List.length_map, List.length_map, List.length_take] at hts
              have e1 : (c[i].take (m + 1)).map (fun w => ss[j] ++ [w]) = (c[i].take m).map (fun w => ss[j] ++ [w]) ++ [ss[j] ++ [c[i][m]]] := by
                rw [List.take_succ_eq_append_getElem hm, List.map_append]
                rfl
              refine ⟨rfl, .ref g, rfl, .str c[i][m], rfl, by show 1 ≤ sizeLine; decide, fun p np => ?_⟩
              have sp : Same H7 (upd H7 p (.tup [.str c[i][m]])) := same_upd np
              refine ⟨g, p, ss[j].map V.str, [.str c[i][m]], rfl, rfl, SqT.of (sp _ _ (s7 _ _ (s5 _ _ hg))), SqT.of upd_same, ?_, fun e0 => ?_, (fun _ e => nomatch e), fun e0 _ => fun p2 np2 => ?_⟩
              · have hej := hE _ (List.getElem_mem hjs)
                have := hc.1
                rw [List.length_map, hej]
                exact sz _ (by simp; omega)
              · have hs0 : ss[j] = [] := by simpa using e0
                have d8 := sp _ _ d7
                refine ⟨zs, d8, small1000 (by omega), zs ++ [.ref p], fun a o e => ?_, upd_same, ?_⟩
                · rw [upd_ne (fun z => by subst z; rw [nD] at e; cases e)]
                  exact sp _ _ (s7 _ _ e)
                · rw [e1]
                  refine RpAll.snoc d8 (r7.same sp) ?_
                  rw [hs0]
                  exact upd_same
              · have sp2 := Same.trans sp (same_upd (o := .tup (ss[j].map V.str ++ [.str c[i][m]])) np2)
                have d8 := sp2 _ _ d7
                refine ⟨zs, d8, small1000 (by omega), zs ++ [.ref p2], fun a o e => ?_, upd_same, ?_⟩
                · rw [upd_ne (fun z => by subst z; rw [nD] at e; cases e)]
                  exact sp2 _ _ (s7 _ _ e)
                · rw [e1]
                  refine RpAll.snoc d8 (r7.same sp2) ?_
                  rw [List.map_append]
                  exact upd_same
            · rintro H7 ⟨zs, s7, d7, r7⟩
              rw [List.length_map, List.take_length] at r7
              have d8 := s7 _ _ d5
              have hz := r7.length
              have ht := r5.length
              have hfl := flat_len_le ss c[i] j
              rw [List.length_map, List.length_map] at hz
              rw [List.length_map] at ht
              have kT : KeepT H7 (upd H7 lg (.lst (ts ++ zs))) := keepT_lst d8
              refine ⟨lg, D, ts, zs, rfl, rfl, d8, d7, sz _ (by omega), some (.ref g), ts ++ zs, rfl, fun a o e => ?_, upd_same, ?_⟩
              · rw [upd_ne (fun z => by subst z; rw [nlg] at e; cases e)]
                exact s7 _ _ (s5 _ _ e)
              · rw [flat_succ _ _ _ hjs, List.map_append]
                exact ((r5.same s7).keep kT (immAll_map imm_dW _)).append (r7.keep kT (immAll_map imm_dW _))
          · rintro σ H5 ⟨y4, ts, rfl, s5, d5, r5⟩
            refine ⟨.ref lg, rfl, some (.ref b), some (.ref lg), y4, lg, ts, rfl, Same.trans s3 s5, nlgH, d5, ?_⟩
            rw [settingsM_succ c i hic, hss]
            rw [hlu, List.take_length] at r5
            exact r5
        · rintro σ H3 ⟨y2, y3, y4, l, us, rfl, s3, nl, d3, r3⟩
          rw [hlen, List.take_length] at r3
          exact ⟨.ref l, rfl, q _ _ s3 nl (.lst d3 r3)⟩
end
end Sg

namespace PySem
open Sem (wp)
open AutoSeq1 (wpAny_loadPart')
theorem sg_enumT (l : Addr) (its : Array Value) (n : Nat) (dct : Option Addr) (sl : Array (Option Value)) :
    Meets (Builtin.«enumerate.__new__» ⟨[.type "enumerate", .ref l], []⟩) (fun _ R s => s.heap.get? l = some { cls := .type "tuple", dict := dct, data := .seq its n, slots := sl } ∧
      R (.ok (.ret (.ref (s.heap.push { cls := .type "tuple_iterator", data := .fields #[.ref l, .int 0 0] }).objs.size)))
        { s with heap := (s.heap.push { cls := .type "tuple_iterator", data := .fields #[.ref l, .int 0 0] }).push { cls := .type "enumerate", data := .fields #[.none, .bool false, .ref s.heap.objs.size, rawInt 0, .none, .none] } }) := by
  refine .of_wp fun prog w A R s h => ?_
  obtain ⟨hp, g, d, tk, os⟩ := s
  obtain ⟨hl, h⟩ := h
  have hsub := sub_enumerate
  have hT : Heap.IsTuple (Shared.heap ⟨hp, g, d, tk, os⟩) l its := ⟨_, hl, rfl, n, rfl⟩
  wp_walk using wpAny_loadPart' hl
  refine wpAny_stack_any fun st => wpAny_pure ?_
  split
  · rename_i c _ _ _ _ _
    cases (c == Value.type "enumerate")
    · wp_walk using wpAny_loadPart' hl, wpAny_pyIter_tuple hT
      exact ⟨_, rfl, h⟩
    · wp_walk using wpAny_loadPart' hl, wpAny_pyIter_tuple hT
      exact ⟨_, rfl, h⟩
  · wp_walk using wpAny_loadPart' hl, wpAny_pyIter_tuple hT
    exact ⟨_, rfl, h⟩
section
variable {prog : Program} {w : World} {A : Around} {E : Value → Shared → Prop} {s : Shared}
theorem sg_call_enumT {l : Addr} {its : Array Value} {Q : Value → Shared → Prop} (hL : s.heap.IsTuple l its)
    (h : ∀ h', IsEnum h' (s.heap.objs.size + 1) s.heap.objs.size 0 .none → h'.IsTupleIter s.heap.objs.size l 0 → h'.objs.size = s.heap.objs.size + 2 →
      (∀ b o, s.heap.get? b = some o → h'.get? b = some o) → Q (.ref (s.heap.objs.size + 1)) { s with heap := h' }) :
    wpAny (model prog w) A (call (.type "enumerate") [.ref l]) Q E s := by
  obtain ⟨⟨c, dct, dt, sl⟩, hl, hc, n, hd⟩ := hL
  simp only at hc hd
  subst hc hd
  refine callType_new F.called_enumerate (by decide) (F.typeCall_enumerate_1 _) (F.newCall_enumerate_1 _) (fun obj => F.args_object_init_2 obj _) F.entry_enumerate_new (sg_enumT l its n dct sl) ⟨hl, ?_⟩
  have hz : (s.heap.push { cls := .type "tuple_iterator", data := .fields #[.ref l, .int 0 0] }).objs.size = s.heap.objs.size + 1 := Heap.size_push ..
  have he : IsEnum ((s.heap.push { cls := .type "tuple_iterator", data := .fields #[.ref l, .int 0 0] }).push { cls := .type "enumerate", data := .fields #[.none, .bool false, .ref s.heap.objs.size, rawInt 0, .none, .none] }) (s.heap.objs.size + 1) s.heap.objs.size 0 .none := by
    have e := Heap.get?_push_size (s.heap.push { cls := .type "tuple_iterator", data := .fields #[.ref l, .int 0 0] }) (o := { cls := .type "enumerate", data := .fields #[.none, .bool false, .ref s.heap.objs.size, rawInt 0, .none, .none] }) rfl
    rw [hz] at e
    exact e
  show _ ∧ _
  rw [hz]
  exact ⟨⟨_, he, rfl⟩, h _ he ⟨_, Heap.get?_push_of_some _ (Heap.get?_push_size _ rfl), rfl, rfl⟩ (by rw [Heap.size_push, hz]) fun b o x => Heap.get?_push_of_some _ (Heap.get?_push_of_some _ x)⟩
end
end PySem

namespace Sg
open PySem PySem.Spec PyProof.Rows L2
/-! ### enumerate(tuple) -/
def IteT (K : PySem.W.Frag) (a : Addr) : It :=
  ⟨fun i H => ∃ (xs : List V) (x : V), SqT K H a xs ∧ xs[i]? = some x,
    fun i H v H' => ∃ T x, v = .ref T ∧ H T = none ∧ H' = upd H T (.tup [.int (i : Nat), x]) ∧ ∀ xs, SqT K H a xs → xs[i]? = some x,
    fun i H => ∃ xs : List V, SqT K H a xs ∧ xs.length = i⟩
theorem apart {h : Heap} {a b : Addr} {o o' : Obj} (ha : h.get? a = some o) (hb : h.get? b = some o') (hc : o.cls ≠ o'.cls) : a ≠ b := fun e => by
  subst e
  rw [ha] at hb
  cases hb
  exact hc rfl
theorem turn_enumT {P : Program} {w : World} {K : PySem.W.Frag} {elts : List Expr} {kk : Nat} {tpos : Pos} (a e it : Addr) :
    Turn P w K (.Tuple elts kk tpos) (IteT K a) [e, it] e (fun i h => (∃ old, IsEnum h e it ((i : Nat) : Int) old) ∧ h.IsTupleIter it a i ∧ e ≠ it) where
  mem := by simp
  obj := fun i h st b hb => by
    obtain ⟨⟨old, he⟩, ⟨o, ho, hc, hd⟩, _⟩ := st
    rcases (show b = e ∨ b = it by simpa using hb) with z | z
    · rw [z]
      exact ⟨_, he, fun v q => nomatch q⟩
    · rw [z]
      exact ⟨o, ho, fun v q => by rw [hd] at q; cases q⟩
  keep := fun i h h' st k => by
    obtain ⟨⟨old, he⟩, hi, hne⟩ := st
    exact ⟨⟨old, k e (by simp) _ he⟩, hi.at fun o q => k it (by simp) o q, hne⟩
  item := by
    intro X hP hw hK hc i pins s σ H E I hf st hg
    subst hP hw hK
    obtain ⟨⟨old, he⟩, hit, hne⟩ := st
    obtain ⟨xs, x, hq, hx⟩ := hg
    obtain ⟨its, rv, p, hz⟩ := I.tuple hq
    obtain ⟨u, hu, ru⟩ := rv.get hx
    have hel : e < s.heap.objs.size := Heap.lt_size he
    have hil : it < s.heap.objs.size := by
      obtain ⟨_, q, _⟩ := hit
      exact Heap.lt_size q
    have hai : a ≠ it := by
      obtain ⟨o, ho, hco, _⟩ := p
      obtain ⟨o2, ho2, hco2, _⟩ := hit
      exact apart ho ho2 (by rw [hco, hco2]; decide)
    have hae : a ≠ e := by
      obtain ⟨o, ho, hco, _⟩ := p
      exact apart ho he (by rw [hco]; show Value.type "tuple" ≠ Value.type "enumerate"; decide)
    have hl : i < its.toArray.size := by
      rw [List.size_toArray]
      exact (List.getElem?_eq_some_iff.mp hu).1
    refine wpAny_pyNext_enum_itemD (Draws.tuple (A := X.A.in1) (show X.A.in1.handled = none from I.ok.hd hc) it a hai its.toArray) he ⟨hit, p⟩ hl hne (by simp; exact ⟨hne, fun z => hae z.symm⟩) fun x' h' tk hp ho hst hT hsz hk => ?_
    have hxu : x' = u := by
      have e1 : its.toArray[i]? = some x' := hp
      rw [List.getElem?_toArray, hu] at e1
      exact (Option.some.inj e1).symm
    subst hxu
    refine ⟨_, rfl, wpAny_letOwnedTupleGo_enum (s := { s with heap := h', toks := tk + 1 }) ho fun h'' he' sb => ?_⟩
    have hT2 : h''.get? s.heap.objs.size = some { cls := .type "tuple", data := .seq #[.int i tk, x'] } := (sb.2 _ (Nat.ne_of_gt hel)).trans hT
    have new : ObjOk X.prog X.w (upd H s.heap.objs.size (.tup [.int (i : Nat), x])) h'' s.heap.objs.size (.tup [.int (i : Nat), x]) :=
      ⟨by show 2 ≤ sizeLine; decide, [.int i tk, x'], .cons ⟨_, rfl⟩ (.cons ru .nil), ⟨_, hT2, rfl, _, rfl⟩⟩
    have I1 : Inv X pins σ (upd H s.heap.objs.size (.tup [.int (i : Nat), x])) { s with heap := h'', toks := tk + 1 } :=
      I.turnedNew (ch := [e, it]) (fun b ob hb q => (sb.2 b (fun z => hb (by simp [z]))).trans (hk b ob (fun z => hb (by simp [z])) (fun z => hb (by simp [z])) q)) hf (Nat.le_refl _) new
    refine ⟨.ref s.heap.objs.size, _, I1, rfl, ⟨_, x, rfl, I.hok.fresh (Nat.le_refl _), rfl, fun ys hy => by rw [I.tuple_inj hy hq]; exact hx⟩, ⟨⟨x', ?_⟩, hst.1.at fun o q => (sb.2 it (Ne.symm hne)).trans q, hne⟩, fun b hb => ?_⟩
    · have e1 : ((i + 1 : Nat) : Int) = (i : Int) + 1 := by omega
      rw [e1]
      exact he'
    · have hb' : b < s.heap.objs.size := by
        rcases (show b = e ∨ b = it by simpa using hb) with z | z
        · rw [z]
          exact hel
        · rw [z]
          exact hil
      rw [upd_ne (Nat.ne_of_lt hb')]
      exact (hf b hb).1
  done := by
    intro X hP hw hK hc i pins s σ H E I hf st hg
    subst hP hw hK
    obtain ⟨⟨old, he⟩, hit, hne⟩ := st
    obtain ⟨xs, hq, hx⟩ := hg
    obtain ⟨its, rv, p, hz⟩ := I.tuple hq
    obtain ⟨f0, f1, f2, f3, f4, f5⟩ := hf it (by simp)
    have hl := rv.length
    have hai : a ≠ it := by
      obtain ⟨o, ho, hco, _⟩ := p
      obtain ⟨o2, ho2, hco2, _⟩ := hit
      exact apart ho ho2 (by rw [hco, hco2]; decide)
    have hsz : its.toArray.size = i := by rw [List.size_toArray]; omega
    refine wpAny_pyNext_enum_endD (Draws.tuple (A := X.A.in1) (show X.A.in1.handled = none from I.ok.hd hc) it a hai its.toArray) he ⟨by rw [hsz]; exact hit, p⟩ fun h' eb => ⟨rfl, I.turned (t' := s.toks) (fun b o hb q => eb b o hb q) f0 f1 f3 f4 f5⟩
  self := fun A i s Q E st h => let ⟨⟨_, he⟩, _⟩ := st; wpAny_pyIter_enum he h
def iEnumT (K : PySem.W.Frag) (ta : TA) : TI := fun σ H R => ta σ H fun vs H1 => ∃ a xs, vs = [.ref a] ∧ SqT K H1 a xs ∧ R (IteT K a) H1
theorem pi_enumT {X : Cx} {e : Expr} {ta : TA} {p pos tpos : Pos} {elts : List Expr} {kk : Nat} (hg : Gl X "enumerate") (hm : X.mg "enumerate" = none) (ha : PA X [e] ta) (hs : starEach [e] X.env = [(false, eval e X.env)] := by rfl) :
    PI X (.Tuple elts kk tpos) (.Call (.Name "enumerate" p) [e] [] pos) (iEnumT X.K ta) := by
  refine ⟨fun pins s σ H R I h => ?_⟩
  refine Call_ (ld_blt I hg hm boot_enumerate (PyProof.Rows.callWith_type1 (thn (ha.run pos pins s σ H _ I h) fun us s1 ⟨vs, H1, I1, r1, q1⟩ => ?_) hs rfl))
  obtain ⟨a, xs, ex, hq, q⟩ := q1
  subst ex
  cases r1 with
  | cons r rr =>
    cases rr
    cases r
    obtain ⟨its, rv, p', hz⟩ := I1.tuple hq
    refine sg_call_enumT p' fun h' he hit hsz hk => wpAny_pyIter_enum he ?_
    have I2 : Inv X pins σ H1 { s1 with heap := h' } := I1.kept (t' := s1.toks) hk
    refine ⟨s1.heap.objs.size + 1, [s1.heap.objs.size + 1, s1.heap.objs.size], _, _, H1, rfl, I2, turn_enumT a (s1.heap.objs.size + 1) s1.heap.objs.size, ⟨⟨.none, he⟩, hit, Nat.succ_ne_self _⟩, fun b hb => ?_, q⟩
    have hle : s1.heap.objs.size ≤ b := by
      rcases (show b = s1.heap.objs.size + 1 ∨ b = s1.heap.objs.size by simpa using hb) with z | z
      · rw [z]
        exact Nat.le_add_right _ _
      · rw [z]
        exact Nat.le_refl _
    exact I1.fpOk hle (I1.hok.fresh hle)
theorem walk_enumT {K : PySem.W.Frag} {a : Addr} {xs : List V} : Walk (IteT K a) xs.length (fun H => SqT K H a xs) (YPair (fun i => some (.int (i : Nat))) (fun i => xs[i]?)) := by
  refine ⟨fun i _ hi q => ⟨xs, xs[i], q, by simp [hi]⟩, fun _ q => ⟨xs, q, rfl⟩, fun i H v H' _ q y => ?_⟩
  obtain ⟨T, x, h1, h2, h3, h4⟩ := y
  exact ⟨T, .int (i : Nat), x, h1, h2, h3, rfl, h4 xs q⟩
end Sg

namespace Sg
open PySem PySem.Spec PyProof.Rows L2
/-! ### WHENs -/
inductive Wn where
  | always
  | is (f : Str) (ws : List Str)
  | nt (w : Wn)
  | both (a b : Wn)
  | either (a b : Wn)
def dN : Wn → PyData
  | .always => .tuple [.str (Str.ofString "always")]
  | .is f ws => .tuple [.str (Str.ofString "is"), .str f, dW ws]
  | .nt w => .tuple [.str (Str.ofString "not"), dN w]
  | .both a b => .tuple [.str (Str.ofString "both"), dN a, dN b]
  | .either a b => .tuple [.str (Str.ofString "either"), dN a, dN b]
theorem imm_dN : ∀ w, imm (dN w) = true
  | .always => rfl
  | .is f ws => by
    show (imm (.str (Str.ofString "is")) && (imm (.str f) && (imm (dW ws) && immAll []))) = true
    rw [imm_dW]
    rfl
  | .nt w => by
    show (imm (.str (Str.ofString "not")) && (imm (dN w) && immAll [])) = true
    rw [imm_dN w]
    rfl
  | .both a b => by
    show (imm (.str (Str.ofString "both")) && (imm (dN a) && (imm (dN b) && immAll []))) = true
    rw [imm_dN a, imm_dN b]
    rfl
  | .either a b => by
    show (imm (.str (Str.ofString "either")) && (imm (dN a) && (imm (dN b) && immAll []))) = true
    rw [imm_dN a, imm_dN b]
    rfl
def dep : Wn → Nat
  | .always => 1
  | .is _ _ => 1
  | .nt w => dep w + 1
  | .both a b => max (dep a) (dep b) + 1
  | .either a b => max (dep a) (dep b) + 1
theorem dep_pos : ∀ w, 1 ≤ dep w
  | .always => Nat.le_refl _
  | .is _ _ => Nat.le_refl _
  | .nt _ => Nat.succ_le_succ (Nat.zero_le _)
  | .both _ _ => Nat.succ_le_succ (Nat.zero_le _)
  | .either _ _ => Nat.succ_le_succ (Nat.zero_le _)
def WOk (fs : List (Str × List Str)) : Wn → Prop
  | .always => True
  | .is f _ => ∃ p ∈ fs, p.1 = f
  | .nt w => WOk fs w
  | .both a b => WOk fs a ∧ WOk fs b
  | .either a b => WOk fs a ∧ WOk fs b
def placeM : List (Str × List Str) → Str → Nat
  | [], _ => 0
  | p :: r, f => if p.1 = f then 0 else placeM r f + 1
theorem place_ok : ∀ (fs : List (Str × List Str)) (f : Str), (∃ p ∈ fs, p.1 = f) → ∃ h : placeM fs f < fs.length, fs[placeM fs f].1 = f ∧ ∀ m (hm : m < placeM fs f) (h2 : m < fs.length), fs[m].1 ≠ f
  | [], _, h => by
    obtain ⟨p, hp, _⟩ := h
    cases hp
  | p :: r, f, h => by
    by_cases e : p.1 = f
    · have e0 : placeM (p :: r) f = 0 := if_pos e
      refine ⟨by rw [e0]; exact Nat.zero_lt_succ _, ?_, fun m hm => by rw [e0] at hm; omega⟩
      simp only [e0]
      exact e
    · have e0 : placeM (p :: r) f = placeM r f + 1 := if_neg e
      have hr : ∃ p ∈ r, p.1 = f := by
        obtain ⟨q, hq, hf⟩ := h
        rcases List.mem_cons.mp hq with z | z
        · subst z
          exact absurd hf e
        · exact ⟨q, z, hf⟩
      obtain ⟨h1, h2, h3⟩ := place_ok r f hr
      refine ⟨by rw [e0]; exact Nat.succ_lt_succ h1, ?_, fun m hm hl => ?_⟩
      · simp only [e0]
        exact h2
      · cases m with
        | zero => exact e
        | succ m => exact h3 m (by rw [e0] at hm; omega) (Nat.lt_of_succ_lt_succ hl)
def holdsM (fs : List (Str × List Str)) (s : List Str) : Wn → Bool
  | .always => true
  | .is f ws => isIn ws (s.getD (placeM fs f) Str.empty)
  | .nt w => !holdsM fs s w
  | .both a b => holdsM fs s a && holdsM fs s b
  | .either a b => holdsM fs s a || holdsM fs s b
theorem Rp.tup_inv {H : Hp} {v : V} {ds : List PyData} (h : Rp H v (.tuple ds)) : ∃ a xs, v = .ref a ∧ H a = some (.tup xs) ∧ RpAll H xs ds := by
  cases h with
  | tup ha hs => exact ⟨_, _, rfl, ha, hs⟩
theorem Rp.lst_inv {H : Hp} {a : Addr} {ds : List PyData} (h : Rp H (.ref a) (.list ds)) : ∃ xs, H a = some (.lst xs) ∧ RpAll H xs ds := by
  cases h with
  | lst ha hs => exact ⟨_, ha, hs⟩
theorem RpAll.one {H : Hp} {vs : List V} {d : PyData} (h : RpAll H vs [d]) : ∃ v, vs = [v] ∧ Rp H v d := by
  cases h with
  | cons h1 h2 =>
    cases h2
    exact ⟨_, rfl, h1⟩
theorem RpAll.two {H : Hp} {vs : List V} {d e : PyData} (h : RpAll H vs [d, e]) : ∃ v w, vs = [v, w] ∧ Rp H v d ∧ Rp H w e := by
  cases h with
  | cons h1 h2 =>
    obtain ⟨w, rfl, h3⟩ := h2.one
    exact ⟨_, w, rfl, h1, h3⟩
theorem RpAll.three {H : Hp} {vs : List V} {d e f : PyData} (h : RpAll H vs [d, e, f]) : ∃ v w u, vs = [v, w, u] ∧ Rp H v d ∧ Rp H w e ∧ Rp H u f := by
  cases h with
  | cons h1 h2 =>
    obtain ⟨w, u, rfl, h3, h4⟩ := h2.two
    exact ⟨_, w, u, rfl, h1, h3, h4⟩
theorem Rp.str_inv {H : Hp} {v : V} {x : Str} (h : Rp H v (.str x)) : v = .str x := by
  cases h
  rfl
abbrev sPlace : Stmt := topS 3
abbrev nPlace : List Str := ["facets", "facet", "name", "words"]
theorem scPlace : FnScope nPlace ["facets", "facet"] (defScope sPlace) := ⟨rfl, rfl, rfl, by decide +kernel, rfl, by decide +kernel, by decide +kernel⟩
abbrev sHolds : Stmt := topS 4
abbrev nHolds : List Str := ["facets", "when", "setting", "word", "first", "second"]
theorem scHolds : FnScope nHolds ["facets", "when", "setting"] (defScope sHolds) := ⟨rfl, rfl, rfl, by decide +kernel, rfl, by decide +kernel, by decide +kernel⟩
section
variable {P : Program} {w : World} {K : PySem.W.Frag} {mg : Str → Option Value} {base : Heap}
def spPlace : Sp := fun vs H Q _ => ∃ (v : V) (f : Str) (fs : List (Str × List Str)), vs = [v, .str f] ∧ Rp H v (dF fs) ∧ (∃ p ∈ fs, p.1 = f) ∧ fs.length ≤ 1000 ∧ ∀ H', Same H H' → Q (.int ((placeM fs f : Nat) : Int)) H'
theorem ok_place {f : Addr} {fd : FuncData} {k : Nat} (F : Fun K "place_of" "place_of" sPlace f fd) : FnOk P w K mg base CX0 (k + 1) f fd ["facets", "facet"] spPlace := by
  refine F.ok scPlace (fun vs H Q E h => ?_) (fun cdv A outer s H vs Q E hr h => ?_)
  · obtain ⟨v, f, fs, rfl, _⟩ := h
    rfl
  · obtain ⟨v, f, fs, rfl, hv, hf, hfl, q⟩ := h
    refine ⟨_, pss_one (ps_ret (pe_bm PySem.F.plainAttrs_list PySem.F.slot_list_index PySem.F.type_list_index mt_index (pe_lc (own := [("name", 2), ("words", 3)]) (g := gTup K 2 (gCons (gName 2) (gCons (gName 3) gNil))) (tt := tYes) (te := tVar 2) rfl scPlace.nd (pi_tup (pv 0)) (blkOk_by (N := nPlace) (sc := defScope sPlace) (by decide +kernel))
      (fun _ _ _ _ _ => pg_tup rfl (pgs_cons (pg_name (i := 2) scPlace.nd rfl (.inl rfl)) (pgs_cons (pg_name (i := 3) scPlace.nd rfl (.inl rfl)) pgs_nil))) (fun _ _ _ _ _ => pts_nil) (fun _ _ _ _ _ => pv 2)) (pa_cons (pv 1) pa_nil))), ?_⟩
    obtain ⟨a, vs, rfl, ha, hs⟩ := hv.tup_inv
    have hlen := hs.length
    rw [List.length_map] at hlen
    refine ⟨.ref a, rfl, a, rfl, ⟨vs, SqT.of ha⟩, fun D nD => ?_⟩
    refine lc_it (walk_tup (xs := vs)) (fun i H3 => Same H H3 ∧ H3 D = some (.lst (((fs.take i).map (·.1)).map V.str))) ⟨same_upd nD, upd_same⟩ (fun i H3 _ h3 => SqT.of (h3.1 _ _ ha)) ?_ ?_
    · rintro i x H4 H3 hi ⟨s3, d3⟩ ⟨rfl, fx⟩
      obtain ⟨d, hd, hr0⟩ := hs.get fx
      have hif : i < fs.length := by omega
      rw [List.getElem?_map, List.getElem?_eq_getElem hif] at hd
      cases hd
      obtain ⟨b, u, rfl, hb, hu⟩ := (hr0.same s3).dP_inv
      refine ⟨b, _, rfl, SqT.of hb, rfl, _, _, rfl, _, _, rfl, rfl, rfl, _, rfl, _, d3, ?_, fun c o e => ?_, ?_⟩
      · rw [List.length_map, List.length_map, List.length_take]
        exact small1000 (by omega)
      · rw [upd_ne (fun z => by subst z; rw [nD] at e; cases e)]
        exact s3 _ _ e
      · rw [upd_same, List.take_succ_eq_append_getElem hif, List.map_append, List.map_append]
        rfl
    · rintro H3 ⟨s3, d3⟩
      rw [hlen, List.take_length] at d3
      obtain ⟨h1, h2, h3⟩ := place_ok fs f hf
      refine ⟨.inl ⟨rfl, _, SqL.of d3⟩, .str f, rfl, D, _, .str f, placeM fs f, .str f, rfl, rfl, SqL.of d3, rfl, all_flat _, ?_, by simp [eqV], fun m z' hm hz => ?_, q _ s3⟩
      · rw [List.getElem?_map, List.getElem?_map, List.getElem?_eq_getElem h1]
        simp only [Option.map_some, h2]
      · have hm2 : m < fs.length := by omega
        rw [List.getElem?_map, List.getElem?_map, List.getElem?_eq_getElem hm2] at hz
        have hz : some (V.str fs[m].1) = some z' := hz
        cases hz
        have := h3 m hm hm2
        show (fs[m].1 == f) = false
        exact beq_eq_false_iff_ne.mpr this
def spHolds (n : Nat) : Sp := fun vs H Q _ => ∃ (fv wv sv : V) (fs : List (Str × List Str)) (wn : Wn) (s : List Str), vs = [fv, wv, sv] ∧ Rp H fv (dF fs) ∧ Rp H wv (dN wn) ∧ Rp H sv (dW s) ∧ WOk fs wn ∧ dep wn ≤ n ∧ s.length = fs.length ∧ fs.length ≤ 1000 ∧ ∀ H', Same H H' → Q (.bl (holdsM fs s wn)) H'
theorem ok_holds {f fP : Addr} {fd fdP : FuncData} (F : Fun K "holds" "holds" sHolds f fd) (b : Binds K fd ["facets", "when", "setting"] []) (g : mg "holds" = some (.ref f)) (FP : Fun K "place_of" "place_of" sPlace fP fdP) (bP : Binds K fdP ["facets", "facet"] []) (gP : mg "place_of" = some (.ref fP)) :
    ∀ n, FnOk P w K mg base CX0 (n + 1) f fd ["facets", "when", "setting"] (spHolds n) := by
  intro n
  induction n with
  | zero => exact ⟨fun _ _ _ _ ⟨_, _, _, _, wn, _, _, _, _, _, _, hd, _⟩ => absurd hd (by have := dep_pos wn; omega), fun _ _ _ _ _ _ _ _ _ _ _ _ _ ⟨_, _, _, _, wn, _, _, _, _, _, _, hd, _⟩ => absurd hd (by have := dep_pos wn; omega)⟩
  | succ n ih =>
    have GP : FnOk P w K mg base CX0 (n + 1) fP fdP ["facets", "facet"] spPlace := ok_place FP
    refine F.ok scHolds (fun vs H Q E h => ?_) (fun cdv A outer s H vs Q E hr h => ?_)
    · obtain ⟨fv, wv, sv, fs, wn, s, rfl, _⟩ := h
      rfl
    · obtain ⟨fv, wv, sv, fs, wn, st, rfl, hf, hw, hs, hok, hd, hl, hfl, q⟩ := h
      refine ⟨_, pss_cons (ps_set (i := 3) scHolds.nd rfl (.inl rfl) (pe_ix ix_tup (pv 1) pe_int (fun _ _ => rfl)))
        (pss_cons (ps_if (pt_cmpR op_eq (pv 3) pe_str (nomark _)) (pss_one (ps_ret pe_bl)) pss_nil)
        (pss_cons (ps_if (pt_cmpR op_eq (pv 3) pe_str (nomark _)) (pss_one (ps_ret (pe_cmpR op_in_seq (pe_ix ix_tup (pv 2) (pe_call GP hr (by rfl) gP FP.kp bP .nil pass0 (pa_cons (pv 0) (pa_cons (pe_ix ix_tup (pv 1) pe_int (fun _ _ => rfl)) pa_nil))) (fun _ _ => rfl)) (pe_ix ix_tup (pv 1) pe_int (fun _ _ => rfl)) rfl))) pss_nil)
        (pss_cons (ps_set (i := 4) scHolds.nd rfl (.inl rfl) (pe_call ih hr (by rfl) g F.kp b .nil pass0 (pa_cons (pv 0) (pa_cons (pe_ix ix_tup (pv 1) pe_int (fun _ _ => rfl)) (pa_cons (pv 2) pa_nil)))))
        (pss_cons (ps_if (pt_cmpR op_eq (pv 3) pe_str (nomark _)) (pss_one (ps_ret (pe_not (pv 4)))) pss_nil)
        (pss_cons (ps_set (i := 5) scHolds.nd rfl (.inl rfl) (pe_call ih hr (by rfl) g F.kp b .nil pass0 (pa_cons (pv 0) (pa_cons (pe_ix ix_tup (pv 1) pe_int (fun _ _ => rfl)) (pa_cons (pv 2) pa_nil)))))
        (pss_cons (ps_if (pt_cmpR op_eq (pv 3) pe_str (nomark _)) (pss_one (ps_ret (pe_and (pv 4) (pe_one (pv 5))))) pss_nil)
        (pss_one (ps_ret (pe_or (pv 4) (pe_one (pv 5))))))))))), ?_⟩
      cases wn with
      | always =>
        obtain ⟨a, xs, rfl, ha, hx⟩ := hw.tup_inv
        obtain ⟨v1, rfl, h1⟩ := hx.one
        have h1 := h1.str_inv
        subst h1
        refine ⟨.ref a, rfl, a, _, 0, _, rfl, rfl, SqT.of ha, rfl, _, rfl, rfl, _, rfl, ?_⟩
        exact q _ (Same.refl H)
      | is fc ws =>
        obtain ⟨a, xs, rfl, ha, hx⟩ := hw.tup_inv
        obtain ⟨v1, v2, v3, rfl, h1, h2, h3⟩ := hx.three
        have h1 := h1.str_inv
        have h2 := h2.str_inv
        subst h1 h2
        obtain ⟨c, rfl, hc⟩ := h3.dW_inv
        obtain ⟨sa, rfl, hsa⟩ := hs.dW_inv
        obtain ⟨hp1, hp2, hp3⟩ := place_ok fs fc hok
        have hpl : placeM fs fc < st.length := by omega
        refine ⟨.ref a, rfl, a, _, 0, _, rfl, rfl, SqT.of ha, rfl, _, rfl, rfl, _, rfl, ?_⟩
        refine ⟨_, rfl, rfl, _, rfl, ?_⟩
        refine ⟨.ref sa, rfl, fv, rfl, .ref a, rfl, a, _, 1, _, rfl, rfl, SqT.of ha, rfl, fv, fc, fs, rfl, hf, hok, hfl, fun H1 s1 => ?_⟩
        refine ⟨sa, _, _, .str st[placeM fs fc], rfl, rfl, SqT.of (s1 _ _ hsa), atI_nat (by rw [List.getElem?_map, List.getElem?_eq_getElem hpl]; rfl), .ref a, rfl, a, _, 2, _, rfl, rfl, SqT.of (s1 _ _ ha), rfl, c, _, rfl, .inr (SqT.of (s1 _ _ hc)), rfl, all_flat _, ?_⟩
        have e : holdsM fs st (.is fc ws) = isIn ws st[placeM fs fc] := by
          show isIn ws (st.getD (placeM fs fc) Str.empty) = _
          rw [List.getD, List.getElem?_eq_getElem hpl]
          rfl
        have := q _ s1
        rw [e] at this
        exact this
      | nt w1 =>
        obtain ⟨a, xs, rfl, ha, hx⟩ := hw.tup_inv
        obtain ⟨v1, v2, rfl, h1, h2⟩ := hx.two
        have h1 := h1.str_inv
        subst h1
        refine ⟨.ref a, rfl, a, _, 0, _, rfl, rfl, SqT.of ha, rfl, _, rfl, rfl, _, rfl, ?_⟩
        refine ⟨_, rfl, rfl, _, rfl, ?_⟩
        refine ⟨fv, rfl, .ref a, rfl, a, _, 1, _, rfl, rfl, SqT.of ha, rfl, sv, rfl, fv, v2, sv, fs, w1, st, rfl, hf, h2, hs, hok, Nat.le_of_succ_le_succ hd, hl, hfl, fun H1 s1 => ?_⟩
        refine ⟨_, rfl, rfl, _, rfl, ?_⟩
        exact ⟨_, rfl, _, rfl, q _ s1⟩
      | both w1 w2 =>
        obtain ⟨a, xs, rfl, ha, hx⟩ := hw.tup_inv
        obtain ⟨v1, v2, v3, rfl, h1, h2, h3⟩ := hx.three
        have h1 := h1.str_inv
        subst h1
        have hd' : max (dep w1) (dep w2) ≤ n := Nat.le_of_succ_le_succ hd
        refine ⟨.ref a, rfl, a, _, 0, _, rfl, rfl, SqT.of ha, rfl, _, rfl, rfl, _, rfl, ?_⟩
        refine ⟨_, rfl, rfl, _, rfl, ?_⟩
        refine ⟨fv, rfl, .ref a, rfl, a, _, 1, _, rfl, rfl, SqT.of ha, rfl, sv, rfl, fv, v2, sv, fs, w1, st, rfl, hf, h2, hs, hok.1, by omega, hl, hfl, fun H1 s1 => ?_⟩
        refine ⟨_, rfl, rfl, _, rfl, ?_⟩
        refine ⟨fv, rfl, .ref a, rfl, a, _, 2, _, rfl, rfl, SqT.of (s1 _ _ ha), rfl, sv, rfl, fv, v3, sv, fs, w2, st, rfl, hf.same s1, h3.same s1, hs.same s1, hok.2, by omega, hl, hfl, fun H2 s2 => ?_⟩
        refine ⟨_, rfl, rfl, _, rfl, ?_⟩
        have hq := q _ (Same.trans s1 s2)
        have e : holdsM fs st (.both w1 w2) = (holdsM fs st w1 && holdsM fs st w2) := rfl
        rw [e] at hq
        refine ⟨_, rfl, _, rfl, ?_⟩
        cases hb : holdsM fs st w1 with
        | true =>
          rw [hb, Bool.true_and] at hq
          exact ⟨_, rfl, hq⟩
        | false =>
          rw [hb, Bool.false_and] at hq
          exact hq
      | either w1 w2 =>
        obtain ⟨a, xs, rfl, ha, hx⟩ := hw.tup_inv
        obtain ⟨v1, v2, v3, rfl, h1, h2, h3⟩ := hx.three
        have h1 := h1.str_inv
        subst h1
        have hd' : max (dep w1) (dep w2) ≤ n := Nat.le_of_succ_le_succ hd
        refine ⟨.ref a, rfl, a, _, 0, _, rfl, rfl, SqT.of ha, rfl, _, rfl, rfl, _, rfl, ?_⟩
        refine ⟨_, rfl, rfl, _, rfl, ?_⟩
        refine ⟨fv, rfl, .ref a, rfl, a, _, 1, _, rfl, rfl, SqT.of ha, rfl, sv, rfl, fv, v2, sv, fs, w1, st, rfl, hf, h2, hs, hok.1, by omega, hl, hfl, fun H1 s1 => ?_⟩
        refine ⟨_, rfl, rfl, _, rfl, ?_⟩
        refine ⟨fv, rfl, .ref a, rfl, a, _, 2, _, rfl, rfl, SqT.of (s1 _ _ ha), rfl, sv, rfl, fv, v3, sv, fs, w2, st, rfl, hf.same s1, h3.same s1, hs.same s1, hok.2, by omega, hl, hfl, fun H2 s2 => ?_⟩
        refine ⟨_, rfl, rfl, _, rfl, ?_⟩
        have hq := q _ (Same.trans s1 s2)
        have e : holdsM fs st (.either w1 w2) = (holdsM fs st w1 || holdsM fs st w2) := rfl
        rw [e] at hq
        refine ⟨_, rfl, _, rfl, ?_⟩
        cases hb : holdsM fs st w1 with
        | false =>
          rw [hb, Bool.false_or] at hq
          exact ⟨_, rfl, hq⟩
        | true =>
          rw [hb, Bool.true_or] at hq
          exact hq
end
end Sg

namespace Sg
open PySem PySem.Spec PyProof.Rows L2
/-! ### list.count over data -/
def rCountD (K : PySem.W.Frag) : V → List V → Hp → VK → Prop := fun x xs H Q => ∃ (a : Addr) (y : V) (ds : List PyData) (d : PyData), x = V.ref a ∧ xs = [y] ∧ Dp K H (V.ref a) (.list ds) ∧ Dp K H y d ∧ PyData.plainAll ds = true ∧ d.plain = true ∧ d.depth ≤ 64 ∧ Q (.int ((ds.countP fun z => PyData.eqv z d : Nat) : Int)) H
theorem mt_countD {X : Cx} (hu : X.A.units + 65 < cLine) : MtR X "list.count" (rCountD X.K) := by
  intro pins s σ H x xs v us Q I rx rxs h
  obtain ⟨a, y, ds, d, rfl, rfl, hl, hy, p1, p2, hd, q⟩ := h
  cases rx
  cases rxs with
  | cons ry rt =>
    rename_i uy ut
    cases rt
    obtain ⟨bs, r1⟩ := Dp.reads I d y uy hy ry
    cases hl with
    | lst hs ha =>
      obtain ⟨its, rv, ⟨o, n, ho, hc, _, hdt⟩, _⟩ := I.list hs
      obtain ⟨as, h4⟩ := Dp.readsAll I ds _ its ha rv
      refine SeqAt.count_list_data (vs := its.toArray) ⟨o, ho, hc, n, hdt⟩ (by rw [List.toList_toArray]; exact h4) r1 p1 p2 ?_ ⟨.int _, H, I.tok _, ⟨_, rfl⟩, q⟩
      have : min (PyData.depthAll ds) d.depth ≤ d.depth := Nat.min_le_right _ _
      omega
def toldB (bs : List Bool) : PyData := if bs.all id = true then .bool true else if bs.any id = true then .none else .bool false
def toldM (fs : List (Str × List Str)) (wn : Wn) (c : List (List Str)) : PyData := toldB ((settingsM c).map fun s => holdsM fs s wn)
theorem plain_bools : ∀ bs : List Bool, PyData.plainAll (bs.map PyData.bool) = true
  | [] => rfl
  | b :: r => by
    show (PyData.plain (.bool b) && PyData.plainAll (r.map PyData.bool)) = true
    rw [plain_bools r]
    rfl
theorem count_bools (b0 : Bool) : ∀ bs : List Bool, (bs.map PyData.bool).countP (fun z => PyData.eqv z (.bool b0)) = bs.countP (· == b0) := by
  intro bs
  rw [List.countP_map]
  rfl
theorem told_count (b0 : Bool) (r : List Bool) : (if ((b0 :: r).map PyData.bool).countP (fun z => PyData.eqv z (.bool b0)) = (b0 :: r).length then PyData.bool b0 else .none) = toldB (b0 :: r) := by
  rw [count_bools]
  unfold toldB
  by_cases h : (b0 :: r).countP (· == b0) = (b0 :: r).length
  · rw [if_pos h]
    have ha := List.countP_eq_length.mp h
    cases b0 with
    | true =>
      rw [if_pos]
      rw [List.all_eq_true]
      intro x hx
      simpa using ha x hx
    | false =>
      rw [if_neg, if_neg]
      · intro hz
        obtain ⟨x, hx, e⟩ := List.any_eq_true.mp hz
        have := ha x hx
        cases x with
        | true => cases this
        | false => cases e
      · intro hz
        have := List.all_eq_true.mp hz false (List.mem_cons_self ..)
        cases this
  · rw [if_neg h, if_neg, if_pos]
    · cases b0 with
      | true => rfl
      | false =>
        rw [List.any_eq_true]
        refine Classical.byContradiction fun hn => h ?_
        rw [List.countP_eq_length]
        intro x hx
        cases x with
        | false => rfl
        | true => exact absurd ⟨true, hx, rfl⟩ hn
    · intro hz
      apply h
      rw [List.countP_eq_length]
      intro x hx
      have h1 := List.all_eq_true.mp hz x hx
      have h2 := List.all_eq_true.mp hz b0 (List.mem_cons_self ..)
      cases x <;> cases b0 <;> first | rfl | exact absurd h1 (by decide) | exact absurd h2 (by decide)
theorem settings_ne {c : List (List Str)} (h : COk c) : ∀ i, i ≤ c.length → settingsM (c.take i) ≠ []
  | 0, _ => by simp [settingsM]
  | i + 1, hi => by
    rw [settingsM_succ c i hi]
    intro e
    have hl : (stepM (settingsM (c.take i)) c[i]).length = 0 := by
      rw [e]
      rfl
    rw [stepM_len] at hl
    have h1 := settings_ne h i (by omega)
    have h2 := (h.2 _ (List.getElem_mem hi)).1
    have h3 : 1 ≤ (settingsM (c.take i)).length := List.length_pos_iff.mpr h1
    have : 1 * 1 ≤ (settingsM (c.take i)).length * c[i].length := Nat.mul_le_mul h3 h2
    omega
theorem settings_ne' {c : List (List Str)} (h : COk c) : settingsM c ≠ [] := by
  have := settings_ne h c.length (Nat.le_refl _)
  rw [List.take_length] at this
  exact this
theorem settings_small {c : List (List Str)} (h : COk c) : (settingsM c).length ≤ 256 ∧ ∀ s ∈ settingsM c, s.length = c.length := by
  have h1 := settingsM_len (fun ws hw => (h.2 ws hw).2.1) c.length (Nat.le_refl _)
  have h2 := pow4 h.1
  have h3 := settingsM_each (c := c) c.length (Nat.le_refl _)
  rw [List.take_length] at h1 h3
  exact ⟨by omega, h3⟩
abbrev sToldIn : Stmt := topS 5
abbrev nToldIn : List Str := ["facets", "when", "case", "answers", "setting"]
theorem scToldIn : FnScope nToldIn ["facets", "when", "case"] (defScope sToldIn) := ⟨rfl, rfl, rfl, by decide +kernel, rfl, by decide +kernel, by decide +kernel⟩
abbrev sLHolds : Stmt := topS 16
abbrev nLHolds : List Str := ["_law_its_facets", "_law_its_when", "_law_its_setting", "_law_word", "_law_one", "_law_other", "_law_k", "_law_pair"]
theorem scLHolds : FnScope nLHolds ["_law_its_facets", "_law_its_when", "_law_its_setting"] (defScope sLHolds) := ⟨rfl, rfl, rfl, by decide +kernel, rfl, by decide +kernel, by decide +kernel⟩
abbrev sLToldIn : Stmt := topS 19
abbrev nLToldIn : List Str := ["_law_a_facets", "_law_a_when", "_law_a_case", "_law_truths", "_law_a_setting"]
theorem scLToldIn : FnScope nLToldIn ["_law_a_facets", "_law_a_when", "_law_a_case"] (defScope sLToldIn) := ⟨rfl, rfl, rfl, by decide +kernel, rfl, by decide +kernel, by decide +kernel⟩
theorem hu65 {k : Nat} {A : Around} (r : Room k A) : A.units + 65 < cLine := by
  have := r.un
  omega
section
variable {P : Program} {w : World} {K : PySem.W.Frag} {mg : Str → Option Value} {base : Heap}
def spToldIn (n : Nat) : Sp := fun vs H Q _ => ∃ (fv wv cv : V) (fs : List (Str × List Str)) (wn : Wn) (c : List (List Str)), vs = [fv, wv, cv] ∧ Rp H fv (dF fs) ∧ Rp H wv (dN wn) ∧ Rp H cv (dC c) ∧ WOk fs wn ∧ dep wn ≤ n ∧ COk c ∧ c.length = fs.length ∧ ∀ r H', Same H H' → Rp H' r (toldM fs wn c) → Q r H'
theorem ok_told_in {f fH fI : Addr} {fd fdH fdI : FuncData} {n : Nat} (F : Fun K "told_in" "told_in" sToldIn f fd) (FH : Fun K "holds" "holds" sHolds fH fdH) (bH : Binds K fdH ["facets", "when", "setting"] []) (gH : mg "holds" = some (.ref fH)) (GH : FnOk P w K mg base CX0 (n + 1) fH fdH ["facets", "when", "setting"] (spHolds n))
    (FI : Fun K "settings_in" "settings_in" sSettingsIn fI fdI) (bI : Binds K fdI ["case"] []) (gI : mg "settings_in" = some (.ref fI)) (ma : mg "all" = none) (my : mg "any" = none) : FnOk P w K mg base CX0 (n + 2) f fd ["facets", "when", "case"] (spToldIn n) := by
  have GI : FnOk P w K mg base CX0 (n + 1) fI fdI ["case"] spSettings := ok_settings_in FI
  refine F.ok scToldIn (fun vs H Q E h => ?_) (fun cdv A outer s H vs Q E hr h => ?_)
  · obtain ⟨fv, wv, cv, fs, wn, c, rfl, _⟩ := h
    rfl
  · obtain ⟨fv, wv, cv, fs, wn, c, rfl, hf, hw, hc, hok, hd, hco, hcl, q⟩ := h
    refine ⟨_, pss_cons (ps_setLc (i := 3) (own := [("setting", 4)]) (g := gName 4) (tt := tYes) (te := tCall (spHolds n) [] E0 (tCons (tVar 0) (tCons (tVar 1) (tCons (tVar 4) tNil)))) rfl scToldIn.nd rfl rfl (sw_true rfl rfl rfl (by decide +kernel)) (pi_list (pe_call GI hr (by rfl) gI FI.kp bI .nil pass0 (pa_cons (pv 2) pa_nil))) (blkOk_by (N := nToldIn) (sc := defScope sToldIn) (by decide +kernel))
        (fun _ _ _ _ _ => pg_name (i := 4) scToldIn.nd rfl (.inl rfl)) (fun _ _ _ _ _ => pts_nil) (fun _ _ _ _ _ => pe_call GH hr (by rfl) gH FH.kp bH .nil pass0 (pa_cons (pv 0) (pa_cons (pv 1) (pa_cons (pv 4) pa_nil)))))
      (pss_cons (ps_if (pt_val (pe_callB (cr_all rfl) (by rfl) ma (by decide +kernel) (pa_cons (pv 3) pa_nil))) (pss_one (ps_ret pe_bl)) pss_nil)
      (pss_one (ps_ret (pe_ifExp (pt_val (pe_callB (cr_any rfl) (by rfl) my (by decide +kernel) (pa_cons (pv 3) pa_nil))) pe_non pe_bl)))), ?_⟩
    refine ⟨cv, rfl, cv, c, rfl, hc, hco, fun p H1 s1 np hp => ?_⟩
    obtain ⟨us, e1, r1⟩ := hp.lst_inv
    have hsm := settings_small hco
    have hlen := r1.length
    rw [List.length_map] at hlen
    refine ⟨p, rfl, ⟨us, SqL.of e1⟩, fun D nD => ?_⟩
    refine lc_it (walk_list (xs := us)) (fun i H3 => Same H1 H3 ∧ H3 D = some (.lst ((((settingsM c).take i).map fun s => holdsM fs s wn).map V.bl))) ⟨same_upd nD, upd_same⟩ (fun i H3 _ h3 => SqL.of (h3.1 _ _ e1)) ?_ ?_
    · rintro i x H4 H3 hi ⟨s3, d3⟩ ⟨rfl, fx⟩
      obtain ⟨d, hdd, hr0⟩ := r1.get fx
      have hif : i < (settingsM c).length := by omega
      rw [List.getElem?_map, List.getElem?_eq_getElem hif] at hdd
      cases hdd
      have s13 := Same.trans s1 s3
      refine ⟨rfl, fv, rfl, wv, rfl, x, rfl, fv, wv, x, fs, wn, (settingsM c)[i], rfl, hf.same s13, hw.same s13, hr0.same s3, hok, hd, by rw [hsm.2 _ (List.getElem_mem hif)]; exact hcl, by have := hco.1; omega, fun H5 s5 => ?_⟩
      refine ⟨_, s5 _ _ d3, ?_, fun b o e => ?_, ?_⟩
      · rw [List.length_map, List.length_map, List.length_take]
        exact small1000 (by omega)
      · rw [upd_ne (fun z => by subst z; rw [nD] at e; cases e)]
        exact s5 _ _ (s3 _ _ e)
      · rw [upd_same, List.take_succ_eq_append_getElem hif, List.map_append, List.map_append]
        rfl
    · rintro H3 ⟨s3, d3⟩
      rw [hlen, List.take_length] at d3
      have s13 := Same.trans s1 s3
      have hq := q
      unfold toldM at hq
      generalize ((settingsM c).map fun s => holdsM fs s wn) = bs at hq d3
      refine ⟨.ref D, rfl, D, bs, rfl, SqL.of d3, _, rfl, ?_⟩
      unfold toldB at hq
      cases hall : bs.all id with
      | true => exact hq _ _ s13 (by rw [hall, if_pos rfl]; exact .bl true)
      | false =>
        rw [hall, if_neg (by decide)] at hq
        refine ⟨.ref D, rfl, D, bs, rfl, SqL.of d3, _, rfl, ?_⟩
        cases hany : bs.any id with
        | true => exact hq _ _ s13 (by rw [hany, if_pos rfl]; exact .non)
        | false => exact hq _ _ s13 (by rw [hany, if_neg (by decide)]; exact .bl false)
/-! ### the law's own holds -/
theorem ok_lholds {f : Addr} {fd : FuncData} (F : Fun K "_law_holds" "_law_holds" sLHolds f fd) (b : Binds K fd ["_law_its_facets", "_law_its_when", "_law_its_setting"] []) (g : mg "_law_holds" = some (.ref f)) (me : mg "enumerate" = none) :
    ∀ n, FnOk P w K mg base CX0 (n + 1) f fd ["_law_its_facets", "_law_its_when", "_law_its_setting"] (spHolds n) := by
  intro n
  induction n with
  | zero => exact ⟨fun _ _ _ _ ⟨_, _, _, _, wn, _, _, _, _, _, _, hd, _⟩ => absurd hd (by have := dep_pos wn; omega), fun _ _ _ _ _ _ _ _ _ _ _ _ _ ⟨_, _, _, _, wn, _, _, _, _, _, _, hd, _⟩ => absurd hd (by have := dep_pos wn; omega)⟩
  | succ n ih =>
    refine F.ok scLHolds (fun vs H Q E h => ?_) (fun cdv A outer s H vs Q E hr h => ?_)
    · obtain ⟨fv, wv, sv, fs, wn, s, rfl, _⟩ := h
      rfl
    · obtain ⟨fv, wv, sv, fs, wn, st, rfl, hf, hw, hs, hok, hd, hl, hfl, q⟩ := h
      refine ⟨_, pss_cons (ps_set (i := 3) scLHolds.nd rfl (.inl rfl) (pe_ix ix_tup (pv 1) pe_int (fun _ _ => rfl)))
        (pss_cons (ps_if (pt_cmpR op_eq (pv 3) pe_str (nomark _)) (pss_one (ps_ret (pe_ix ix_list (pe_lc (own := [("_law_k", 6), ("_law_pair", 7)]) (g := gTup K 2 (gCons (gName 6) (gCons (gName 7) gNil))) (tt := tTest (tOp rEq (tOp (rIxT K) (tVar 7) (tC (.int 0))) (tOp (rIxT K) (tVar 1) (tC (.int 1))))) (te := tOp (rIn K false) (tOp (rIxT K) (tVar 2) (tVar 6)) (tOp (rIxT K) (tVar 1) (tC (.int 2)))) rfl scLHolds.nd (pi_enumT (by rfl) me (pa_cons (pv 0) pa_nil)) (blkOk_by (N := nLHolds) (sc := defScope sLHolds) (by decide +kernel))
            (fun _ _ _ _ _ => pg_tup rfl (pgs_cons (pg_name (i := 6) scLHolds.nd rfl (.inl rfl)) (pgs_cons (pg_name (i := 7) scLHolds.nd rfl (.inl rfl)) pgs_nil))) (fun _ _ _ _ _ => pts_one (pt_cmpR op_eq (pe_ix ix_tup (pv 7) pe_int (fun _ _ => rfl)) (pe_ix ix_tup (pv 1) pe_int (fun _ _ => rfl)) (nomark _)))
            (fun _ _ _ _ _ => pe_cmpR op_in_seq (pe_ix ix_tup (pv 2) (pv 6) (fun _ _ => rfl)) (pe_ix ix_tup (pv 1) pe_int (fun _ _ => rfl)) rfl)) pe_int (fun _ _ => rfl)))) pss_nil)
        (pss_cons (ps_if (pt_cmpR op_in_seq (pv 3) (pe_tup (pa_cons pe_str (pa_cons pe_str pa_nil))) rfl) (pss_one (ps_ret (pe_or (pe_cmpR op_eq (pv 3) pe_str (nomark _)) (pe_one (pe_not (pe_call ih hr (by rfl) g F.kp b .nil pass0 (pa_cons (pv 0) (pa_cons (pe_ix ix_tup (pv 1) pe_int (fun _ _ => rfl)) (pa_cons (pv 2) pa_nil))))))))) pss_nil)
        (pss_cons (ps_par (i := 4) (j := 5) rfl scLHolds.nd rfl rfl (by decide) rfl rfl (pa_cons (pe_call ih hr (by rfl) g F.kp b .nil pass0 (pa_cons (pv 0) (pa_cons (pe_ix ix_tup (pv 1) pe_int (fun _ _ => rfl)) (pa_cons (pv 2) pa_nil)))) (pa_cons (pe_call ih hr (by rfl) g F.kp b .nil pass0 (pa_cons (pv 0) (pa_cons (pe_ix ix_tup (pv 1) pe_int (fun _ _ => rfl)) (pa_cons (pv 2) pa_nil)))) pa_nil)) rfl)
        (pss_one (ps_ret (pe_ifExp (pt_cmpR op_eq (pv 3) pe_str (nomark _)) (pe_and (pv 4) (pe_one (pv 5))) (pe_or (pv 4) (pe_one (pv 5))))))))), ?_⟩
      cases wn with
      | always =>
        obtain ⟨a, xs, rfl, ha, hx⟩ := hw.tup_inv
        obtain ⟨v1, rfl, h1⟩ := hx.one
        have h1 := h1.str_inv
        subst h1
        refine ⟨.ref a, rfl, a, _, 0, _, rfl, rfl, SqT.of ha, rfl, _, rfl, rfl, _, rfl, ?_⟩
        refine ⟨_, rfl, by show 2 ≤ sizeLine; decide, fun p np => ⟨p, _, rfl, .inr (SqT.of upd_same), rfl, rfl, _, rfl, ?_⟩⟩
        refine ⟨_, rfl, rfl, _, rfl, ?_⟩
        exact q _ (same_upd np)
      | is fc ws =>
        obtain ⟨a, xs, rfl, ha, hx⟩ := hw.tup_inv
        obtain ⟨v1, v2, v3, rfl, h1, h2, h3⟩ := hx.three
        have h1 := h1.str_inv
        have h2 := h2.str_inv
        subst h1 h2
        obtain ⟨c, rfl, hc⟩ := h3.dW_inv
        obtain ⟨sa, rfl, hsa⟩ := hs.dW_inv
        obtain ⟨hp1, hp2, hp3⟩ := place_ok fs fc hok
        have hpl : placeM fs fc < st.length := by omega
        obtain ⟨fa, fxs, rfl, hfa, hfx⟩ := hf.tup_inv
        have hlen := hfx.length
        rw [List.length_map] at hlen
        have e : holdsM fs st (.is fc ws) = isIn ws st[placeM fs fc] := by
          show isIn ws (st.getD (placeM fs fc) Str.empty) = _
          rw [List.getD, List.getElem?_eq_getElem hpl]
          rfl
        refine ⟨.ref a, rfl, a, _, 0, _, rfl, rfl, SqT.of ha, rfl, _, rfl, rfl, _, rfl, ?_⟩
        refine ⟨.ref fa, rfl, fa, fxs, rfl, SqT.of hfa, fun D nD => ?_⟩
        refine lc_it (walk_enumT (xs := fxs)) (fun i H3 => ∃ bs : List Bool, Same H H3 ∧ H3 D = some (.lst (bs.map V.bl)) ∧ bs.length ≤ i ∧ (i ≤ placeM fs fc → bs = []) ∧ (placeM fs fc < i → ∃ r, bs = isIn ws st[placeM fs fc] :: r)) ⟨[], same_upd nD, upd_same, Nat.le_refl _, fun _ => rfl, fun h => absurd h (by omega)⟩ (fun i H3 _ h3 => let ⟨_, s3, _⟩ := h3; SqT.of (s3 _ _ hfa)) ?_ ?_
        · rintro i x H3 H4 hi ⟨bs, s3, d3, lb, b0, b1⟩ ⟨T, x1, x2, rfl, nT, rfl, f1, f2⟩
          cases f1
          have hif : i < fs.length := by omega
          have his : i < st.length := by omega
          obtain ⟨dd, hdd, r2⟩ := hfx.get f2
          rw [List.getElem?_map, List.getElem?_eq_getElem hif] at hdd
          cases hdd
          have sT : Same H3 (upd H3 T (.tup [.int (i : Nat), x2])) := same_upd nT
          have sA := Same.trans s3 sT
          obtain ⟨pb, pu, rfl, hpb, hpu⟩ := (r2.same sA).dP_inv
          refine ⟨T, _, rfl, SqT.of upd_same, rfl, _, _, rfl, _, _, rfl, rfl, rfl, .ref pb, rfl, pb, _, 0, _, rfl, rfl, SqT.of hpb, rfl, .ref a, rfl, a, _, 1, _, rfl, rfl, SqT.of (sA _ _ ha), rfl, rfl, _, rfl, ite2 (fun hz => ?_) (fun hz => ?_)⟩
          · have hz : fs[i].1 = fc := V.str.inj (of_decide_eq_true hz)
            refine ⟨.ref sa, rfl, .int (i : Nat), rfl, sa, _, _, .str st[i], rfl, rfl, SqT.of (sA _ _ hsa), atI_nat (by rw [List.getElem?_map, List.getElem?_eq_getElem his]; rfl), .ref a, rfl, a, _, 2, _, rfl, rfl, SqT.of (sA _ _ ha), rfl, c, _, rfl, .inr (SqT.of (sA _ _ hc)), rfl, all_flat _, _, sT _ _ d3, ?_, bs ++ [isIn ws st[i]], fun b o eb => ?_, ?_, ?_, ?_, ?_⟩
            · rw [List.length_map]
              exact small1000 (by omega)
            · rw [upd_ne (fun z => by subst z; rw [nD] at eb; cases eb)]
              exact sA _ _ eb
            · rw [upd_same, List.map_append]
              rfl
            · rw [List.length_append]
              simp
              exact lb
            · intro hle
              exact absurd hz (hp3 i (by omega) hif)
            · intro hlt
              by_cases hip : placeM fs fc < i
              · obtain ⟨r, hr'⟩ := b1 hip
                exact ⟨r ++ [isIn ws st[i]], by rw [hr']; rfl⟩
              · have ei : placeM fs fc = i := by omega
                rw [b0 (by omega)]
                refine ⟨[], ?_⟩
                simp only [ei]
                rfl
          · refine ⟨bs, sA, sT _ _ d3, by omega, fun hle => b0 (by omega), fun hlt => ?_⟩
            by_cases hip : placeM fs fc < i
            · exact b1 hip
            · have ei : placeM fs fc = i := by omega
              have hne : ¬ fs[i].1 = fc := fun z => hz (decide_eq_true (by rw [z]))
              exact absurd (by have := hp2; simp only [ei] at this; exact this) hne
        · rintro H3 ⟨bs, s3, d3, lb, b0, b1⟩
          obtain ⟨r, hr'⟩ := b1 (by omega)
          refine ⟨D, _, 0, .bl (isIn ws st[placeM fs fc]), rfl, rfl, SqL.of d3, by rw [hr']; exact atI_nat (j := 0) rfl, ?_⟩
          have := q _ s3
          rw [e] at this
          exact this
      | nt w1 =>
        obtain ⟨a, xs, rfl, ha, hx⟩ := hw.tup_inv
        obtain ⟨v1, v2, rfl, h1, h2⟩ := hx.two
        have h1 := h1.str_inv
        subst h1
        refine ⟨.ref a, rfl, a, _, 0, _, rfl, rfl, SqT.of ha, rfl, _, rfl, rfl, _, rfl, ?_⟩
        refine ⟨_, rfl, by show 2 ≤ sizeLine; decide, fun p np => ⟨p, _, rfl, .inr (SqT.of upd_same), rfl, rfl, _, rfl, ?_⟩⟩
        have s0 : Same H (upd H p (.tup [.str (Str.ofString "always"), .str (Str.ofString "not")])) := same_upd np
        refine ⟨_, rfl, rfl, _, rfl, ?_⟩
        refine ⟨fv, rfl, .ref a, rfl, a, _, 1, _, rfl, rfl, SqT.of (s0 _ _ ha), rfl, sv, rfl, fv, v2, sv, fs, w1, st, rfl, hf.same s0, h2.same s0, hs.same s0, hok, Nat.le_of_succ_le_succ hd, hl, hfl, fun H1 s1 => ?_⟩
        exact ⟨_, rfl, q _ (Same.trans s0 s1)⟩
      | both w1 w2 =>
        obtain ⟨a, xs, rfl, ha, hx⟩ := hw.tup_inv
        obtain ⟨v1, v2, v3, rfl, h1, h2, h3⟩ := hx.three
        have h1 := h1.str_inv
        subst h1
        have hd' : max (dep w1) (dep w2) ≤ n := Nat.le_of_succ_le_succ hd
        refine ⟨.ref a, rfl, a, _, 0, _, rfl, rfl, SqT.of ha, rfl, _, rfl, rfl, _, rfl, ?_⟩
        refine ⟨_, rfl, by show 2 ≤ sizeLine; decide, fun p np => ⟨p, _, rfl, .inr (SqT.of upd_same), rfl, rfl, _, rfl, ?_⟩⟩
        have s0 : Same H (upd H p (.tup [.str (Str.ofString "always"), .str (Str.ofString "not")])) := same_upd np
        refine ⟨fv, rfl, .ref a, rfl, a, _, 1, _, rfl, rfl, SqT.of (s0 _ _ ha), rfl, sv, rfl, fv, v2, sv, fs, w1, st, rfl, hf.same s0, h2.same s0, hs.same s0, hok.1, by omega, hl, hfl, fun H1 s1 => ?_⟩
        have s01 := Same.trans s0 s1
        refine ⟨fv, rfl, .ref a, rfl, a, _, 2, _, rfl, rfl, SqT.of (s01 _ _ ha), rfl, sv, rfl, fv, v3, sv, fs, w2, st, rfl, hf.same s01, h3.same s01, hs.same s01, hok.2, by omega, hl, hfl, fun H2 s2 => ⟨_, _, rfl, ?_⟩⟩
        refine ⟨_, rfl, rfl, _, rfl, ?_⟩
        have hq := q _ (Same.trans s01 s2)
        have e : holdsM fs st (.both w1 w2) = (holdsM fs st w1 && holdsM fs st w2) := rfl
        rw [e] at hq
        refine ⟨_, rfl, _, rfl, ?_⟩
        cases hb : holdsM fs st w1 with
        | true =>
          rw [hb, Bool.true_and] at hq
          exact ⟨_, rfl, hq⟩
        | false =>
          rw [hb, Bool.false_and] at hq
          exact hq
      | either w1 w2 =>
        obtain ⟨a, xs, rfl, ha, hx⟩ := hw.tup_inv
        obtain ⟨v1, v2, v3, rfl, h1, h2, h3⟩ := hx.three
        have h1 := h1.str_inv
        subst h1
        have hd' : max (dep w1) (dep w2) ≤ n := Nat.le_of_succ_le_succ hd
        refine ⟨.ref a, rfl, a, _, 0, _, rfl, rfl, SqT.of ha, rfl, _, rfl, rfl, _, rfl, ?_⟩
        refine ⟨_, rfl, by show 2 ≤ sizeLine; decide, fun p np => ⟨p, _, rfl, .inr (SqT.of upd_same), rfl, rfl, _, rfl, ?_⟩⟩
        have s0 : Same H (upd H p (.tup [.str (Str.ofString "always"), .str (Str.ofString "not")])) := same_upd np
        refine ⟨fv, rfl, .ref a, rfl, a, _, 1, _, rfl, rfl, SqT.of (s0 _ _ ha), rfl, sv, rfl, fv, v2, sv, fs, w1, st, rfl, hf.same s0, h2.same s0, hs.same s0, hok.1, by omega, hl, hfl, fun H1 s1 => ?_⟩
        have s01 := Same.trans s0 s1
        refine ⟨fv, rfl, .ref a, rfl, a, _, 2, _, rfl, rfl, SqT.of (s01 _ _ ha), rfl, sv, rfl, fv, v3, sv, fs, w2, st, rfl, hf.same s01, h3.same s01, hs.same s01, hok.2, by omega, hl, hfl, fun H2 s2 => ⟨_, _, rfl, ?_⟩⟩
        refine ⟨_, rfl, rfl, _, rfl, ?_⟩
        have hq := q _ (Same.trans s01 s2)
        have e : holdsM fs st (.either w1 w2) = (holdsM fs st w1 || holdsM fs st w2) := rfl
        rw [e] at hq
        refine ⟨_, rfl, _, rfl, ?_⟩
        cases hb : holdsM fs st w1 with
        | false =>
          rw [hb, Bool.false_or] at hq
          exact ⟨_, rfl, hq⟩
        | true =>
          rw [hb, Bool.true_or] at hq
          exact hq
end
end Sg

namespace Sg
open PySem PySem.Spec PyProof.Rows L2
theorem dp_bools {K : PySem.W.Frag} {H : Hp} : ∀ bs : List Bool, DpAll K H (bs.map V.bl) (bs.map PyData.bool)
  | [] => .nil
  | b :: r => .cons (.bl b) (dp_bools r)
def bud : Nat → Nat
  | 0 => 10
  | k + 1 => 2 * bud k + 10
theorem bud_mono : ∀ {j k : Nat}, j ≤ k → bud j ≤ bud k
  | j, 0, h => by
    have : j = 0 := by omega
    rw [this]
    exact Nat.le_refl _
  | j, k + 1, h => by
    by_cases e : j = k + 1
    · rw [e]
      exact Nat.le_refl _
    · have := bud_mono (j := j) (k := k) (by omega)
      show bud j ≤ 2 * bud k + 10
      omega
abbrev sWhen : Stmt := topS 15
abbrev nWhen : List Str := ["_law_tape_here", "_law_its_facets", "_law_deep", "_law_way", "_law_facet", "_law_words", "_law_one"]
theorem scWhen : FnScope nWhen ["_law_tape_here", "_law_its_facets", "_law_deep"] (defScope sWhen) := ⟨rfl, rfl, rfl, by decide +kernel, rfl, by decide +kernel, by decide +kernel⟩
section
variable {P : Program} {w : World} {K : PySem.W.Frag} {mg : Str → Option Value} {base : Heap}
theorem ok_ltold_in {f fH fL : Addr} {fd fdH fdL : FuncData} {n : Nat} (F : Fun K "_law_told_in" "_law_told_in" sLToldIn f fd) (FH : Fun K "_law_holds" "_law_holds" sLHolds fH fdH) (bH : Binds K fdH ["_law_its_facets", "_law_its_when", "_law_its_setting"] []) (gH : mg "_law_holds" = some (.ref fH)) (GH : FnOk P w K mg base CX0 (n + 1) fH fdH ["_law_its_facets", "_law_its_when", "_law_its_setting"] (spHolds n))
    (FL : Fun K "_law_settings" "_law_settings" sLSettings fL fdL) (bL : Binds K fdL ["_law_some"] []) (gL : mg "_law_settings" = some (.ref fL)) (ml : mg "len" = none) : FnOk P w K mg base CX0 (n + 2) f fd ["_law_a_facets", "_law_a_when", "_law_a_case"] (spToldIn n) := by
  have GL : FnOk P w K mg base CX0 (n + 1) fL fdL ["_law_some"] spSettingsA := ok_lsettings FL
  refine F.ok scLToldIn (fun vs H Q E h => ?_) (fun cdv A outer s H vs Q E hr h => ?_)
  · obtain ⟨fv, wv, cv, fs, wn, c, rfl, _⟩ := h
    rfl
  · obtain ⟨fv, wv, cv, fs, wn, c, rfl, hf, hw, hc, hok, hd, hco, hcl, q⟩ := h
    refine ⟨_, pss_cons (ps_setLc (i := 3) (own := [("_law_a_setting", 4)]) (g := gName 4) (tt := tYes) (te := tCall (spHolds n) [] E0 (tCons (tVar 0) (tCons (tVar 1) (tCons (tVar 4) tNil)))) rfl scLToldIn.nd rfl rfl (sw_true rfl rfl rfl (by decide +kernel)) (pi_list (pe_call GL hr (by rfl) gL FL.kp bL .nil pass0 (pa_cons (pv 2) pa_nil))) (blkOk_by (N := nLToldIn) (sc := defScope sLToldIn) (by decide +kernel))
        (fun _ _ _ _ _ => pg_name (i := 4) scLToldIn.nd rfl (.inl rfl)) (fun _ _ _ _ _ => pts_nil) (fun _ _ _ _ _ => pe_call GH hr (by rfl) gH FH.kp bH .nil pass0 (pa_cons (pv 0) (pa_cons (pv 1) (pa_cons (pv 4) pa_nil)))))
      (pss_one (ps_ret (pe_ifExp (pt_cmpR op_eq (pe_bm PySem.F.plainAttrs_list PySem.F.slot_list_count PySem.F.type_list_count (mt_countD (hu65 hr)) (pv 3) (pa_cons (pe_ix ix_list (pv 3) pe_int (fun _ _ => rfl)) pa_nil)) (pe_callB call_len_seq (by rfl) ml PySem.boot_len (pa_cons (pv 3) pa_nil)) (nomark _)) (pe_ix ix_list (pv 3) pe_int (fun _ _ => rfl)) pe_non))), ?_⟩
    refine ⟨cv, rfl, cv, c, rfl, .inl hc, hco, fun p H1 s1 np hp => ?_⟩
    obtain ⟨us, e1, r1⟩ := hp.lst_inv
    have hsm := settings_small hco
    have hlen := r1.length
    rw [List.length_map] at hlen
    refine ⟨p, rfl, ⟨us, SqL.of e1⟩, fun D nD => ?_⟩
    refine lc_it (walk_list (xs := us)) (fun i H3 => Same H1 H3 ∧ H3 D = some (.lst ((((settingsM c).take i).map fun s => holdsM fs s wn).map V.bl))) ⟨same_upd nD, upd_same⟩ (fun i H3 _ h3 => SqL.of (h3.1 _ _ e1)) ?_ ?_
    · rintro i x H4 H3 hi ⟨s3, d3⟩ ⟨rfl, fx⟩
      obtain ⟨d, hdd, hr0⟩ := r1.get fx
      have hif : i < (settingsM c).length := by omega
      rw [List.getElem?_map, List.getElem?_eq_getElem hif] at hdd
      cases hdd
      have s13 := Same.trans s1 s3
      refine ⟨rfl, fv, rfl, wv, rfl, x, rfl, fv, wv, x, fs, wn, (settingsM c)[i], rfl, hf.same s13, hw.same s13, hr0.same s3, hok, hd, by rw [hsm.2 _ (List.getElem_mem hif)]; exact hcl, by have := hco.1; omega, fun H5 s5 => ?_⟩
      refine ⟨_, s5 _ _ d3, ?_, fun b o e => ?_, ?_⟩
      · rw [List.length_map, List.length_map, List.length_take]
        exact small1000 (by omega)
      · rw [upd_ne (fun z => by subst z; rw [nD] at e; cases e)]
        exact s5 _ _ (s3 _ _ e)
      · rw [upd_same, List.take_succ_eq_append_getElem hif, List.map_append, List.map_append]
        rfl
    · rintro H3 ⟨s3, d3⟩
      rw [hlen, List.take_length] at d3
      have s13 := Same.trans s1 s3
      have hq := q
      unfold toldM at hq
      have hne : ((settingsM c).map fun s => holdsM fs s wn) ≠ [] := fun z => settings_ne' hco (List.map_eq_nil_iff.mp z)
      generalize ((settingsM c).map fun s => holdsM fs s wn) = bs at hq d3 hne
      cases bs with
      | nil => exact absurd rfl hne
      | cons b0 r =>
        rw [← told_count] at hq
        refine ⟨.ref D, rfl, .inl ⟨rfl, _, SqL.of d3⟩, .ref D, rfl, D, _, 0, .bl b0, rfl, rfl, SqL.of d3, atI_nat (j := 0) rfl, D, .bl b0, (b0 :: r).map PyData.bool, .bool b0, rfl, rfl, .lst (SqL.of d3) (dp_bools _), .bl b0, plain_bools _, rfl, (by show 0 ≤ 64; decide), .ref D, rfl, D, _, rfl, .inl (SqL.of d3), rfl, _, rfl, ite2 (fun hz => ?_) (fun hz => ?_)⟩
        · have hz := V.int.inj (of_decide_eq_true hz)
          rw [List.length_map] at hz
          have hz := Int.ofNat.inj hz
          rw [if_pos hz] at hq
          exact ⟨.ref D, rfl, D, _, 0, .bl b0, rfl, rfl, SqL.of d3, atI_nat (j := 0) rfl, hq _ _ s13 (.bl b0)⟩
        · have hz : ¬ ((b0 :: r).map PyData.bool).countP (fun z => PyData.eqv z (.bool b0)) = (b0 :: r).length := fun e => hz (decide_eq_true (by rw [e, List.length_map]))
          rw [if_neg hz] at hq
          exact hq _ _ s13 .non
/-! ### WHENs drawn -/
def spWhen (n : Nat) : Sp := fun vs H Q _ => ∃ (t : Addr) (fv : V) (k N : Nat) (fs : List (Str × List Str)), vs = [.ref t, fv, .int (k : Int)] ∧ 1 ≤ k ∧ k ≤ n ∧ Rp H fv (dF fs) ∧ FOk fs ∧ 1 ≤ fs.length ∧ fs.length ≤ 4 ∧ TapeAt H t N ∧ N + bud k ≤ 800000 ∧
  ∀ (wv : V) (H' : Hp) (wn : Wn), Ex t H H' → TapeAt H' t (N + bud k) → Rp H' wv (dN wn) → WOk fs wn → dep wn ≤ k → Q wv H'
theorem ok_when {f fD fP : Addr} {fd fdD fdP : FuncData} (F : Fun K "_law_when" "_law_when" sWhen f fd) (b : Binds K fd ["_law_tape_here", "_law_its_facets", "_law_deep"] []) (g : mg "_law_when" = some (.ref f)) (FD : Fun K "_law_draw" "_law_draw" sDraw fD fdD) (bD : Binds K fdD ["_law_tape_here", "_law_many"] []) (gD : mg "_law_draw" = some (.ref fD))
    (FP : Fun K "_law_part" "_law_part" sPart fP fdP) (bP : Binds K fdP ["_law_tape_here", "_law_some", "_law_many"] []) (gP : mg "_law_part" = some (.ref fP))
    (ml : mg "len" = none) (mr : mg "range" = none) (mls : mg "list" = none) (ms : mg "sorted" = none) (mt : mg "tuple" = none) (mm : mg "min" = none) :
    ∀ n, FnOk P w K mg base CX0 (n + 3) f fd ["_law_tape_here", "_law_its_facets", "_law_deep"] (spWhen n) := by
  intro n
  induction n with
  | zero => exact ⟨fun _ _ _ _ ⟨_, _, k, _, _, _, h1, h2, _⟩ => absurd h1 (by omega), fun _ _ _ _ _ _ _ _ _ _ _ _ _ ⟨_, _, k, _, _, _, h1, h2, _⟩ => absurd h1 (by omega)⟩
  | succ n ih =>
    have GD : FnOk P w K mg base CX0 (n + 3) fD fdD ["_law_tape_here", "_law_many"] spDraw := ok_draw FD
    have GP : FnOk P w K mg base CX0 (n + 3) fP fdP ["_law_tape_here", "_law_some", "_law_many"] spPart := ok_part FP FD bD gD ml mr mls
    refine F.ok scWhen (fun vs H Q E h => ?_) (fun cdv A outer s H vs Q E hr h => ?_)
    · obtain ⟨t, fv, k, N, fs, rfl, _⟩ := h
      rfl
    · obtain ⟨t, fv, k, N, fs, rfl, hk1, hkn, hf, hfo, hl1, hl4, hT, hN, q⟩ := h
      refine ⟨_, pss_cons (ps_set (i := 3) scWhen.nd rfl (.inl rfl) (pe_call GD hr (by rfl) gD FD.kp bD .nil pass0 (pa_cons (pv 0) (pa_cons pe_int pa_nil))))
        (pss_cons (ps_if (PW.pt (pw_or (pt_cmpR op_lt (pv 2) pe_int (nomark _)) (pw_or1 (pt_cmpR op_lt (pv 3) pe_int (nomark _)))))
          (pss_cons (ps_if (pt_cmpR op_eq (pe_call GD hr (by rfl) gD FD.kp bD .nil pass0 (pa_cons (pv 0) (pa_cons pe_int pa_nil))) pe_int (nomark _)) (pss_one (ps_ret (pe_tup (pa_cons pe_str pa_nil)))) pss_nil)
          (pss_cons (ps_asg (pe_ix ix_tup (pv 1) (pe_call GD hr (by rfl) gD FD.kp bD .nil pass0 (pa_cons (pv 0) (pa_cons (pe_callB call_len_seq (by rfl) ml PySem.boot_len (pa_cons (pv 1) pa_nil)) pa_nil))) (fun _ _ => rfl)) (pg_tup rfl (pgs_cons (pg_name (i := 4) scWhen.nd rfl (.inl rfl)) (pgs_cons (pg_name (i := 5) scWhen.nd rfl (.inl rfl)) pgs_nil))))
          (pss_one (ps_ret (pe_tup (pa_cons pe_str (pa_cons (pv 4) (pa_cons (pe_tupleOf (by rfl) mt (pe_callB cr_sortedS (by rfl) ms (by decide +kernel) (pa_cons (pe_call GP hr (by rfl) gP FP.kp bP .nil pass0 (pa_cons (pv 0) (pa_cons (pv 5) (pa_cons (pe_op op_add pe_int (pe_call GD hr (by rfl) gD FD.kp bD .nil pass0 (pa_cons (pv 0) (pa_cons (pe_callB call_len_seq (by rfl) ml PySem.boot_len (pa_cons (pv 5) pa_nil)) pa_nil)))) pa_nil)))) pa_nil))) pa_nil)))))))) pss_nil)
        (pss_cons (ps_if (pt_cmpR op_eq (pv 3) pe_int (nomark _)) (pss_one (ps_ret (pe_tup (pa_cons pe_str (pa_cons (pe_call ih hr (by rfl) g F.kp b .nil pass0 (pa_cons (pv 0) (pa_cons (pv 1) (pa_cons (pe_op op_sub (pv 2) pe_int) pa_nil)))) pa_nil))))) pss_nil)
        (pss_cons (ps_set (i := 6) scWhen.nd rfl (.inl rfl) (pe_call ih hr (by rfl) g F.kp b .nil pass0 (pa_cons (pv 0) (pa_cons (pv 1) (pa_cons (pe_op op_sub (pv 2) pe_int) pa_nil)))))
        (pss_one (ps_ret (pe_tup (pa_cons (pe_ix ix_list (pe_lst (pa_cons pe_str (pa_cons pe_str pa_nil))) (pe_op op_mod (pv 3) pe_int) (fun _ _ => rfl)) (pa_cons (pv 6) (pa_cons (pe_call ih hr (by rfl) g F.kp b .nil pass0 (pa_cons (pv 0) (pa_cons (pv 1) (pa_cons (pe_callB (call_min2 rfl) (by rfl) mm (by decide +kernel) (pa_cons pe_int (pa_cons (pe_op op_sub (pv 2) pe_int) pa_nil))) pa_nil)))) pa_nil))))))))), ?_⟩
      have hb10 : ∀ j, 10 ≤ bud j := fun j => bud_mono (j := 0) (Nat.zero_le j)
      have hbk := hb10 k
      refine ⟨.ref t, rfl, t, 6, N, rfl, by decide, by decide, hT, by omega, fun way H1 x1 T1 hw0 hw1 => ?_⟩
      have hf1 := hf.keep (hT.keepT x1) (imm_dF fs)
      refine ⟨.int (k : Int), rfl, (k : Int), 2, rfl, rfl, _, rfl, ite2 (fun h2 => ?_) (fun h2 => ⟨.int way, rfl, way, 2, rfl, rfl, _, rfl, ite2 (fun h3 => ?_) (fun h3 => ?_)⟩)⟩
      · refine ⟨.ref t, rfl, t, 8, N + 1, rfl, by decide, by decide, T1, by omega, fun r2 H2 x2 T2 h20 h21 => ⟨rfl, _, rfl, ite2 (fun h0 => ?_) (fun h0 => ?_)⟩⟩
        · refine ⟨by show 1 ≤ sizeLine; decide, fun p np => ?_⟩
          exact q _ _ .always ((x1.trans x2).trans (Same.ex (same_upd np))) ((T2.upd (T2.ne_none np)).mono (by omega)) (.tup upd_same (.cons (.str _) .nil)) trivial hk1
        · have hf2 := hf1.keep (T1.keepT x2) (imm_dF fs)
          obtain ⟨a, xs, rfl, ha, hs⟩ := hf2.tup_inv
          have hlen := hs.length
          rw [List.length_map] at hlen
          refine ⟨.ref a, rfl, .ref t, rfl, .ref a, rfl, a, xs, rfl, .inr (SqT.of ha), t, _, N + 2, rfl, by omega, by omega, T2, by omega, fun r3 H3 x3 T3 h30 h31 => ?_⟩
          obtain ⟨j, rfl⟩ : ∃ j : Nat, r3 = j := ⟨r3.toNat, by omega⟩
          have hj : j < fs.length := by omega
          have hp := hfo _ (List.getElem_mem hj)
          have ha3 := x3 a _ (T2.ne_tup ha) ha
          obtain ⟨vj, hvj, rvj⟩ := hs.getD (show (fs.map fun p => PyData.tuple [.str p.1, dW p.2])[j]? = some (dP fs[j]) by rw [List.getElem?_map, List.getElem?_eq_getElem hj]; rfl)
          obtain ⟨pb, pu, rfl, hpb, hpu⟩ := (rvj.keep (T2.keepT x3) (imm_dP _)).dP_inv
          obtain ⟨g', rfl, hg⟩ := hpu.dW_inv
          refine ⟨a, xs, (j : Int), .ref pb, rfl, rfl, SqT.of ha3, atI_nat hvj, pb, _, rfl, SqT.of hpb, rfl, _, _, rfl, _, _, rfl, rfl, ?_⟩
          refine ⟨.str fs[j].1, rfl, .ref t, rfl, .ref g', rfl, .ref t, rfl, .ref g', rfl, g', _, rfl, .inr (SqT.of hg), t, _, N + 3, rfl, by rw [List.length_map]; omega, by rw [List.length_map]; omega, T3, by omega, fun r4 H4 x4 T4 h40 h41 => ?_⟩
          rw [List.length_map] at h41
          obtain ⟨r4', rfl⟩ : ∃ r4' : Nat, r4 = r4' := ⟨r4.toNat, by omega⟩
          refine ⟨1, (r4' : Int), rfl, rfl, t, .ref g', fs[j].2, 1 + r4', N + 4, by rfl, (Rp.dW_mk hg).keep (T3.keepT x4) (imm_dW _), by omega, by omega, T4, by omega, fun p5 H5 us x5 T5 np5 e5 l5 w5 => ?_⟩
          refine ⟨p5, us, rfl, SqL.of e5, by omega, fun ys p6 hperm _ np6 => .inl ⟨p6, _, rfl, SqL.of upd_same, fun p7 np7 => ⟨by show 3 ≤ sizeLine; decide, fun p8 np8 => ?_⟩⟩⟩
          have s58 := Same.trans (same_upd (H := H5) (o := .lst (ys.map V.str)) np6) (Same.trans (same_upd (o := .tup (ys.map V.str)) np7) (same_upd (o := .tup [.str (Str.ofString "is"), .str fs[j].1, .ref p7]) np8))
          have e7 := same_upd (o := .tup [.str (Str.ofString "is"), .str fs[j].1, .ref p7]) np8 _ _ (upd_same (H := upd H5 p6 (.lst (ys.map V.str))) (a := p7) (o := .tup (ys.map V.str)))
          exact q _ _ (.is fs[j].1 ys) ((((x1.trans x2).trans x3).trans (x4.trans x5)).trans (Same.ex s58)) ((T5.same s58).mono (by omega)) (.tup upd_same (.cons (.str _) (.cons (.str _) (.cons (Rp.dW_mk e7) .nil)))) ⟨_, List.getElem_mem hj, rfl⟩ hk1
      · refine ⟨.ref t, rfl, t, 8, N + 1, rfl, by decide, by decide, T1, by omega, fun r2 H2 x2 T2 h20 h21 => ⟨rfl, _, rfl, ite2 (fun h0 => ?_) (fun h0 => ?_)⟩⟩
        · refine ⟨by show 1 ≤ sizeLine; decide, fun p np => ?_⟩
          exact q _ _ .always ((x1.trans x2).trans (Same.ex (same_upd np))) ((T2.upd (T2.ne_none np)).mono (by omega)) (.tup upd_same (.cons (.str _) .nil)) trivial hk1
        · have hf2 := hf1.keep (T1.keepT x2) (imm_dF fs)
          obtain ⟨a, xs, rfl, ha, hs⟩ := hf2.tup_inv
          have hlen := hs.length
          rw [List.length_map] at hlen
          refine ⟨.ref a, rfl, .ref t, rfl, .ref a, rfl, a, xs, rfl, .inr (SqT.of ha), t, _, N + 2, rfl, by omega, by omega, T2, by omega, fun r3 H3 x3 T3 h30 h31 => ?_⟩
          obtain ⟨j, rfl⟩ : ∃ j : Nat, r3 = j := ⟨r3.toNat, by omega⟩
          have hj : j < fs.length := by omega
          have hp := hfo _ (List.getElem_mem hj)
          have ha3 := x3 a _ (T2.ne_tup ha) ha
          obtain ⟨vj, hvj, rvj⟩ := hs.getD (show (fs.map fun p => PyData.tuple [.str p.1, dW p.2])[j]? = some (dP fs[j]) by rw [List.getElem?_map, List.getElem?_eq_getElem hj]; rfl)
          obtain ⟨pb, pu, rfl, hpb, hpu⟩ := (rvj.keep (T2.keepT x3) (imm_dP _)).dP_inv
          obtain ⟨g', rfl, hg⟩ := hpu.dW_inv
          refine ⟨a, xs, (j : Int), .ref pb, rfl, rfl, SqT.of ha3, atI_nat hvj, pb, _, rfl, SqT.of hpb, rfl, _, _, rfl, _, _, rfl, rfl, ?_⟩
          refine ⟨.str fs[j].1, rfl, .ref t, rfl, .ref g', rfl, .ref t, rfl, .ref g', rfl, g', _, rfl, .inr (SqT.of hg), t, _, N + 3, rfl, by rw [List.length_map]; omega, by rw [List.length_map]; omega, T3, by omega, fun r4 H4 x4 T4 h40 h41 => ?_⟩
          rw [List.length_map] at h41
          obtain ⟨r4', rfl⟩ : ∃ r4' : Nat, r4 = r4' := ⟨r4.toNat, by omega⟩
          refine ⟨1, (r4' : Int), rfl, rfl, t, .ref g', fs[j].2, 1 + r4', N + 4, by rfl, (Rp.dW_mk hg).keep (T3.keepT x4) (imm_dW _), by omega, by omega, T4, by omega, fun p5 H5 us x5 T5 np5 e5 l5 w5 => ?_⟩
          refine ⟨p5, us, rfl, SqL.of e5, by omega, fun ys p6 hperm _ np6 => .inl ⟨p6, _, rfl, SqL.of upd_same, fun p7 np7 => ⟨by show 3 ≤ sizeLine; decide, fun p8 np8 => ?_⟩⟩⟩
          have s58 := Same.trans (same_upd (H := H5) (o := .lst (ys.map V.str)) np6) (Same.trans (same_upd (o := .tup (ys.map V.str)) np7) (same_upd (o := .tup [.str (Str.ofString "is"), .str fs[j].1, .ref p7]) np8))
          have e7 := same_upd (o := .tup [.str (Str.ofString "is"), .str fs[j].1, .ref p7]) np8 _ _ (upd_same (H := upd H5 p6 (.lst (ys.map V.str))) (a := p7) (o := .tup (ys.map V.str)))
          exact q _ _ (.is fs[j].1 ys) ((((x1.trans x2).trans x3).trans (x4.trans x5)).trans (Same.ex s58)) ((T5.same s58).mono (by omega)) (.tup upd_same (.cons (.str _) (.cons (.str _) (.cons (Rp.dW_mk e7) .nil)))) ⟨_, List.getElem_mem hj, rfl⟩ hk1
      · have h2 : ¬ (k : Int) < 2 := fun z => h2 (decide_eq_true z)
        obtain ⟨k', rfl⟩ : ∃ k', k = k' + 1 := ⟨k - 1, by omega⟩
        have hbk' : bud (k' + 1) = 2 * bud k' + 10 := rfl
        have ek : ((k' + 1 : Nat) : Int) - 1 = (k' : Int) := by omega
        refine ⟨.int way, rfl, rfl, _, rfl, ite2 (fun h4 => ?_) (fun h4 => ?_)⟩
        · refine ⟨.ref t, rfl, fv, rfl, .int ((k' + 1 : Nat) : Int), rfl, _, 1, rfl, rfl, t, fv, k', N + 1, fs, ?_, by omega, by omega, hf1, hfo, hl1, hl4, T1, by omega, fun wv H2 wn x2 T2 hwv hok hdp => ?_⟩
          · show [V.ref t, fv, V.int (((k' + 1 : Nat) : Int) - 1)] = _
            rw [ek]
          · refine ⟨by show 2 ≤ sizeLine; decide, fun p np => ?_⟩
            exact q _ _ (.nt wn) ((x1.trans x2).trans (Same.ex (same_upd np))) ((T2.upd (T2.ne_none np)).mono (by omega)) (.tup upd_same (.cons (.str _) (.cons (hwv.same (same_upd np)) .nil))) hok (Nat.succ_le_succ hdp)
        · refine ⟨.ref t, rfl, fv, rfl, .int ((k' + 1 : Nat) : Int), rfl, _, 1, rfl, rfl, t, fv, k', N + 1, fs, ?_, by omega, by omega, hf1, hfo, hl1, hl4, T1, by omega, fun wv H2 wn x2 T2 hwv hok hdp => ?_⟩
          · show [V.ref t, fv, V.int (((k' + 1 : Nat) : Int) - 1)] = _
            rw [ek]
          have hf2 := hf1.keep (T1.keepT x2) (imm_dF fs)
          refine ⟨by show 2 ≤ sizeLine; decide, fun l nl => ?_⟩
          have sl : Same H2 (upd H2 l (.lst [.str (Str.ofString "both"), .str (Str.ofString "either")])) := same_upd nl
          have hm2 := mod_lt (i := way) (j := 2) (by decide)
          obtain ⟨wd, hwd, hwd2⟩ : ∃ wd : Str, atI [V.str (Str.ofString "both"), V.str (Str.ofString "either")] (way % 2) = some (.str wd) ∧ (wd = Str.ofString "both" ∨ wd = Str.ofString "either") := by
            have : way % 2 = 0 ∨ way % 2 = 1 := by omega
            rcases this with z | z
            · rw [z]
              exact ⟨_, rfl, .inl rfl⟩
            · rw [z]
              exact ⟨_, rfl, .inr rfl⟩
          refine ⟨.int way, rfl, way, 2, rfl, rfl, (by decide : (0 : Int) < 2), l, _, _, .str wd, rfl, rfl, SqL.of upd_same, hwd, wv, rfl, ?_⟩
          obtain ⟨m, hm, hm1, hmk⟩ : ∃ m : Nat, (if ((k' + 1 : Nat) : Int) - 1 < 2 then ((k' + 1 : Nat) : Int) - 1 else 2) = (m : Int) ∧ 1 ≤ m ∧ m ≤ k' := by
            by_cases z : ((k' + 1 : Nat) : Int) - 1 < 2
            · exact ⟨k', by rw [if_pos z]; omega, by omega, Nat.le_refl _⟩
            · exact ⟨2, by rw [if_neg z]; rfl, by omega, by omega⟩
          have hbm := bud_mono hmk
          have T2l := T2.same sl
          refine ⟨.ref t, rfl, fv, rfl, .int ((k' + 1 : Nat) : Int), rfl, _, 1, rfl, rfl, 2, _, rfl, t, fv, m, N + 1 + bud k', fs, ?_, hm1, by omega, hf2.same sl, hfo, hl1, hl4, T2l, by omega, fun wv2 H3 wn2 x3 T3 hwv2 hok2 hdp2 => ⟨by show 3 ≤ sizeLine; decide, fun p np => ?_⟩⟩
          · rw [hm]
            rfl
          have kT := T2l.keepT x3
          have hwv3 := (hwv.same sl).keep kT (imm_dN wn)
          have xx : Ex t H (upd H3 p (.tup [.str wd, wv, wv2])) := ((x1.trans x2).trans (Same.ex sl)).trans (x3.trans (Same.ex (same_upd np)))
          have TT : TapeAt (upd H3 p (.tup [.str wd, wv, wv2])) t (N + bud (k' + 1)) := (T3.upd (T3.ne_none np)).mono (by omega)
          have hdd : max (dep wn) (dep wn2) + 1 ≤ k' + 1 := by omega
          rcases hwd2 with rfl | rfl
          · exact q _ _ (.both wn wn2) xx TT (.tup upd_same (.cons (.str _) (.cons (hwv3.same (same_upd np)) (.cons (hwv2.same (same_upd np)) .nil)))) ⟨hok, hok2⟩ hdd
          · exact q _ _ (.either wn wn2) xx TT (.tup upd_same (.cons (.str _) (.cons (hwv3.same (same_upd np)) (.cons (hwv2.same (same_upd np)) .nil)))) ⟨hok, hok2⟩ hdd
end
end Sg

namespace Sg
open PySem PySem.Spec PyProof.Rows L2
abbrev sAll : Stmt := topS 18
abbrev nAll : List Str := ["_law_a_facets", "_law_pair"]
theorem scAll : FnScope nAll ["_law_a_facets"] (defScope sAll) := ⟨rfl, rfl, rfl, by decide +kernel, rfl, by decide +kernel, by decide +kernel⟩
abbrev sWhens : Stmt := topS 20
abbrev nWhens : List Str := ["_law_tape_here", "_law_a_facets", "_law_one", "_law_found", "_law_turn"]
theorem scWhens : FnScope nWhens ["_law_tape_here", "_law_a_facets"] (defScope sWhens) := ⟨rfl, rfl, rfl, by decide +kernel, rfl, by decide +kernel, by decide +kernel⟩
theorem COk.of {fs : List (Str × List Str)} (h : FOk fs) (hl : fs.length ≤ 4) : COk (fs.map (·.2)) := ⟨by rw [List.length_map]; exact hl, fun ws hw => by
  obtain ⟨p, hp, rfl⟩ := List.mem_map.mp hw
  have := h p hp
  exact ⟨by omega, this.2.2.1, this.2.2.2⟩⟩
/-- [f(x) for x in a list], f's answers without lists in them -/
theorem calls_lc {K : PySem.W.Frag} {α : Type} {a : Addr} {us : List V} {xs : List α} {d val : α → PyData} {σ : L2.St} {vs : List Nat} {slot : Nat} {te : TE} {H1 : Hp} {D : Addr} {Qd : Hp → Prop} (nD : H1 D = none) (ha : H1 a = some (.lst us)) (hr : RpAll H1 us (xs.map d)) (hlen : xs.length ≤ 1000) (himm : ∀ x, imm (val x) = true)
    (hw : ∀ x : V, wipe ((wipe σ vs).set slot (some x)) vs = wipe σ vs)
    (hcall : ∀ (i : Nat) (h : i < xs.length) (x : V) (H2 : Hp) (Q : VK), Same H1 H2 → Rp H2 x (d xs[i]) → (∀ r H3, Same H2 H3 → Rp H3 r (val xs[i]) → Q r H3) → te ((wipe σ vs).set slot (some x)) H2 Q)
    (hd : ∀ H' ts, Same H1 H' → H' D = some (.lst ts) → RpAll H' ts (xs.map val) → Qd H') :
    ∃ W : Nat → Nat → Hp → Prop, (∃ m, W 0 m (upd H1 D (.lst []))) ∧ ∀ i m H, W i m H →
      ((Itl K a).stop i H ∧ Qd H) ∨ ((Itl K a).go i H ∧ ∃ Nx : Hp → Prop, (∀ H', Nx H' → ∃ m', m' < m ∧ W (i + 1) m' H') ∧ ∀ x H', (Itl K a).yld i H x H' → gName slot x (wipe σ vs) H' fun σ2 H2 => wipe σ2 vs = wipe σ vs ∧ tYes σ2 H2 fun b H3 =>
        if b = true then te σ2 H3 fun y H4 => ∃ acc, H4 D = some (.lst acc) ∧ acc.length < sizeLine ∧ Nx (upd H4 D (.lst (acc ++ [y]))) else Nx H3) := by
  have hl := hr.length
  rw [List.length_map] at hl
  refine lc_it (walk_list (xs := us)) (fun i H3 => ∃ ts, Same H1 H3 ∧ H3 D = some (.lst ts) ∧ RpAll H3 ts ((xs.take i).map val)) ⟨[], same_upd nD, upd_same, .nil⟩ (fun i H3 _ h3 => let ⟨_, s3, _⟩ := h3; SqL.of (s3 _ _ ha)) ?_ ?_
  · rintro i x H4 H3 hi ⟨ts, s3, d3, r3⟩ ⟨rfl, fx⟩
    obtain ⟨dd, hdd, hr0⟩ := hr.get fx
    have hix : i < xs.length := by omega
    rw [List.getElem?_map, List.getElem?_eq_getElem hix] at hdd
    cases hdd
    refine ⟨hw _, hcall i hix x _ _ s3 (hr0.same s3) fun r H5 s5 h5 => ?_⟩
    have d5 := s5 _ _ d3
    have kT : KeepT H5 (upd H5 D (.lst (ts ++ [r]))) := keepT_lst d5
    refine ⟨ts, d5, ?_, ts ++ [r], fun b o e => ?_, upd_same, ?_⟩
    · rw [r3.length, List.length_map, List.length_take]
      exact small1000 (by omega)
    · rw [upd_ne (fun z => by subst z; rw [nD] at e; cases e)]
      exact s5 _ _ (s3 _ _ e)
    · rw [List.take_succ_eq_append_getElem hix, List.map_append]
      exact ((r3.same s5).keep kT (immAll_map himm _)).append (.cons (h5.keep kT (himm _)) .nil)
  · rintro H3 ⟨ts, s3, d3, r3⟩
    rw [hl, List.take_length] at r3
    exact hd _ _ s3 d3 r3
section
variable {P : Program} {w : World} {K : PySem.W.Frag} {mg : Str → Option Value} {base : Heap}
/-- [pair[1] for pair in facets] -/
theorem seconds_lc {a : Addr} {vs : List V} {fs : List (Str × List Str)} {σ : L2.St} {ws : List Nat} {slot : Nat} {H1 : Hp} {D : Addr} {Qd : Hp → Prop} (nD : H1 D = none) (ha : H1 a = some (.tup vs)) (hs : RpAll H1 vs (fs.map fun p => .tuple [.str p.1, dW p.2])) (hlen : fs.length ≤ 1000)
    (hw : ∀ x : V, wipe ((wipe σ ws).set slot (some x)) ws = wipe σ ws) (hv : ∀ x : V, ((wipe σ ws).set slot (some x))[slot]? = some (some x))
    (hd : ∀ H' us, Same H1 H' → H' D = some (.lst us) → RpAll H' us ((fs.map (·.2)).map dW) → Qd H') :
    ∃ W : Nat → Nat → Hp → Prop, (∃ m, W 0 m (upd H1 D (.lst []))) ∧ ∀ i m H, W i m H →
      ((Itt K a).stop i H ∧ Qd H) ∨ ((Itt K a).go i H ∧ ∃ Nx : Hp → Prop, (∀ H', Nx H' → ∃ m', m' < m ∧ W (i + 1) m' H') ∧ ∀ x H', (Itt K a).yld i H x H' → gName slot x (wipe σ ws) H' fun σ2 H2 => wipe σ2 ws = wipe σ ws ∧ tYes σ2 H2 fun b H3 =>
        if b = true then tOp (rIxT K) (tVar slot) (tC (.int 1)) σ2 H3 fun y H4 => ∃ acc, H4 D = some (.lst acc) ∧ acc.length < sizeLine ∧ Nx (upd H4 D (.lst (acc ++ [y]))) else Nx H3) := by
  have hl := hs.length
  rw [List.length_map] at hl
  refine lc_it (walk_tup (xs := vs)) (fun i H5 => ∃ us : List V, Same H1 H5 ∧ H5 D = some (.lst us) ∧ RpAll H5 us (((fs.take i).map (·.2)).map dW)) ⟨[], same_upd nD, upd_same, .nil⟩ (fun i H5 _ h5 => let ⟨_, s5, _⟩ := h5; SqT.of (s5 _ _ ha)) ?_ ?_
  · rintro i x H6 H5 hi ⟨us, s5, d5, r5⟩ ⟨rfl, fx⟩
    obtain ⟨d, hdd, hr0⟩ := hs.get fx
    have hif : i < fs.length := by omega
    rw [List.getElem?_map, List.getElem?_eq_getElem hif] at hdd
    cases hdd
    obtain ⟨b, u, rfl, hb, hu⟩ := (hr0.same s5).dP_inv
    obtain ⟨g, rfl, hg⟩ := hu.dW_inv
    refine ⟨hw _, _, hv _, b, _, 1, .ref g, rfl, rfl, SqT.of hb, rfl, _, d5, ?_, us ++ [.ref g], fun c o e => ?_, upd_same, ?_⟩
    · rw [r5.length, List.length_map, List.length_map, List.length_take]
      exact small1000 (by omega)
    · rw [upd_ne (fun z => by subst z; rw [nD] at e; cases e)]
      exact s5 _ _ e
    · rw [List.take_succ_eq_append_getElem hif, List.map_append]
      exact RpAll.snoc d5 r5 hg
  · rintro H5 ⟨us, s5, d5, r5⟩
    rw [hl, List.take_length] at r5
    exact hd _ _ s5 d5 r5
def spAll : Sp := fun vs H Q _ => ∃ (v : V) (fs : List (Str × List Str)), vs = [v] ∧ Rp H v (dF fs) ∧ FOk fs ∧ fs.length ≤ 4 ∧ ∀ (p : Addr) (H' : Hp), Same H H' → H p = none → Rp H' (.ref p) (.list ((settingsM (fs.map (·.2))).map dW)) → Q (.ref p) H'
theorem ok_all {f fL : Addr} {fd fdL : FuncData} {k : Nat} (F : Fun K "_law_all" "_law_all" sAll f fd) (FL : Fun K "_law_settings" "_law_settings" sLSettings fL fdL) (bL : Binds K fdL ["_law_some"] []) (gL : mg "_law_settings" = some (.ref fL)) : FnOk P w K mg base CX0 (k + 2) f fd ["_law_a_facets"] spAll := by
  have GL : FnOk P w K mg base CX0 (k + 1) fL fdL ["_law_some"] spSettingsA := ok_lsettings FL
  refine F.ok scAll (fun vs H Q E h => ?_) (fun cdv A outer s H vs Q E hr h => ?_)
  · obtain ⟨v, fs, rfl, _⟩ := h
    rfl
  · obtain ⟨v, fs, rfl, hv, hfo, hfl, q⟩ := h
    refine ⟨_, pss_one (ps_ret (pe_call GL hr (by rfl) gL FL.kp bL .nil pass0 (pa_cons (pe_lc (own := [("_law_pair", 1)]) (g := gName 1) (tt := tYes) (te := tOp (rIxT K) (tVar 1) (tC (.int 1))) rfl scAll.nd (pi_tup (pv 0)) (blkOk_by (N := nAll) (sc := defScope sAll) (by decide +kernel))
      (fun _ _ _ _ _ => pg_name (i := 1) scAll.nd rfl (.inl rfl)) (fun _ _ _ _ _ => pts_nil) (fun _ _ _ _ _ => pe_ix ix_tup (pv 1) pe_int (fun _ _ => rfl))) pa_nil))), ?_⟩
    obtain ⟨a, vs, rfl, ha, hs⟩ := hv.tup_inv
    refine ⟨.ref a, rfl, a, rfl, ⟨vs, SqT.of ha⟩, fun D nD => ?_⟩
    refine seconds_lc nD ha hs (by omega) (fun _ => rfl) (fun _ => rfl) fun H1 us s1 d1 r1 => ?_
    exact ⟨.ref D, fs.map (·.2), rfl, .inr (.lst d1 r1), COk.of hfo hfl, fun p H2 s2 np hp => q _ _ (Same.trans s1 s2) (s1.free np) hp⟩
def spWhens : Sp := fun vs H Q _ => ∃ (t : Addr) (fv : V) (N : Nat) (fs : List (Str × List Str)), vs = [.ref t, fv] ∧ Rp H fv (dF fs) ∧ FOk fs ∧ 1 ≤ fs.length ∧ fs.length ≤ 4 ∧ TapeAt H t N ∧ N ≤ 700000 ∧
  ∀ (p : Addr) (H' : Hp) (ws : List Wn), Ex t H H' → TapeAt H' t (N + 700) → H p = none → Rp H' (.ref p) (.list (ws.map dN)) → ws.length = 6 → (∀ wn ∈ ws, WOk fs wn ∧ dep wn ≤ 4) → Q (.ref p) H'
theorem ok_whens {f fD fW : Addr} {fd fdD fdW : FuncData} (F : Fun K "_law_whens" "_law_whens" sWhens f fd) (FD : Fun K "_law_draw" "_law_draw" sDraw fD fdD) (bD : Binds K fdD ["_law_tape_here", "_law_many"] []) (gD : mg "_law_draw" = some (.ref fD))
    (FW : Fun K "_law_when" "_law_when" sWhen fW fdW) (bW : Binds K fdW ["_law_tape_here", "_law_its_facets", "_law_deep"] []) (gW : mg "_law_when" = some (.ref fW)) (GW : FnOk P w K mg base CX0 6 fW fdW ["_law_tape_here", "_law_its_facets", "_law_deep"] (spWhen 3)) (mr : mg "range" = none) : FnOk P w K mg base CX0 7 f fd ["_law_tape_here", "_law_a_facets"] spWhens := by
  have GD : FnOk P w K mg base CX0 6 fD fdD ["_law_tape_here", "_law_many"] spDraw := ok_draw FD
  refine F.ok scWhens (fun vs H Q E h => ?_) (fun cdv A outer s H vs Q E hr h => ?_)
  · obtain ⟨t, fv, N, fs, rfl, _⟩ := h
    rfl
  · obtain ⟨t, fv, N, fs, rfl, hf, hfo, hl1, hl4, hT, hN, q⟩ := h
    refine ⟨_, pss_cons (ps_set (i := 2) scWhens.nd rfl (.inl rfl) (pe_call GW hr (by rfl) gW FW.kp bW .nil pass0 (pa_cons (pv 0) (pa_cons (pv 1) (pa_cons pe_int pa_nil)))))
      (pss_cons (ps_set (i := 3) scWhens.nd rfl (.inl rfl) (pe_lst (pa_cons (pe_tup (pa_cons pe_str (pa_cons (pv 2) (pa_cons (pe_tup (pa_cons pe_str (pa_cons (pv 2) pa_nil))) pa_nil)))) (pa_cons (pe_tup (pa_cons pe_str (pa_cons (pv 2) (pa_cons (pe_tup (pa_cons pe_str (pa_cons (pv 2) pa_nil))) pa_nil)))) pa_nil))))
      (pss_one (ps_ret (pe_op op_cat (pv 3) (pe_lc (own := [("_law_turn", 4)]) (g := gName 4) (tt := tYes) (te := tCall (spWhen 3) [] E0 (tCons (tVar 0) (tCons (tVar 1) (tCons (tOp (rI0 fun i j => .int (i + j)) (tC (.int 1)) (tCall spDraw [] E0 (tCons (tVar 0) (tCons (tC (.int 3)) tNil)))) tNil)))) rfl scWhens.nd (pi_range1 rfl mr (pa_cons pe_int pa_nil)) (blkOk_by (N := nWhens) (sc := defScope sWhens) (by decide +kernel))
        (fun _ _ _ _ _ => pg_name (i := 4) scWhens.nd rfl (.inl rfl)) (fun _ _ _ _ _ => pts_nil) (fun _ _ _ _ _ => pe_call GW hr (by rfl) gW FW.kp bW .nil pass0 (pa_cons (pv 0) (pa_cons (pv 1) (pa_cons (pe_op op_add pe_int (pe_call GD hr (by rfl) gD FD.kp bD .nil pass0 (pa_cons (pv 0) (pa_cons pe_int pa_nil)))) pa_nil))))))))), ?_⟩
    have hb2 : bud 2 = 70 := rfl
    refine ⟨.ref t, rfl, fv, rfl, t, fv, 2, N, fs, rfl, by decide, by decide, hf, hfo, hl1, hl4, hT, by omega, fun v1 H1 w1 x1 T1 h1 ok1 dp1 => ?_⟩
    have hf1 := hf.keep (hT.keepT x1) (imm_dF fs)
    refine ⟨v1, rfl, v1, rfl, by show 2 ≤ sizeLine; decide, fun p1 np1 => ⟨by show 3 ≤ sizeLine; decide, fun p2 np2 => ⟨v1, rfl, v1, rfl, by show 2 ≤ sizeLine; decide, fun p3 np3 => ⟨by show 3 ≤ sizeLine; decide, fun p4 np4 => ⟨by show 2 ≤ sizeLine; decide, fun l nl => ?_⟩⟩⟩⟩⟩
    have a1 : Same H1 (upd H1 p1 (.tup [.str (Str.ofString "not"), v1])) := same_upd np1
    have e1 : (upd H1 p1 (.tup [.str (Str.ofString "not"), v1])) p1 = some (.tup [.str (Str.ofString "not"), v1]) := upd_same
    generalize upd H1 p1 (.tup [.str (Str.ofString "not"), v1]) = G1 at *
    have a2 : Same G1 (upd G1 p2 (.tup [.str (Str.ofString "either"), v1, .ref p1])) := same_upd np2
    have e2 : (upd G1 p2 (.tup [.str (Str.ofString "either"), v1, .ref p1])) p2 = some (.tup [.str (Str.ofString "either"), v1, .ref p1]) := upd_same
    generalize upd G1 p2 (.tup [.str (Str.ofString "either"), v1, .ref p1]) = G2 at *
    have a3 : Same G2 (upd G2 p3 (.tup [.str (Str.ofString "not"), v1])) := same_upd np3
    have e3 : (upd G2 p3 (.tup [.str (Str.ofString "not"), v1])) p3 = some (.tup [.str (Str.ofString "not"), v1]) := upd_same
    generalize upd G2 p3 (.tup [.str (Str.ofString "not"), v1]) = G3 at *
    have a4 : Same G3 (upd G3 p4 (.tup [.str (Str.ofString "both"), v1, .ref p3])) := same_upd np4
    have e4 : (upd G3 p4 (.tup [.str (Str.ofString "both"), v1, .ref p3])) p4 = some (.tup [.str (Str.ofString "both"), v1, .ref p3]) := upd_same
    generalize upd G3 p4 (.tup [.str (Str.ofString "both"), v1, .ref p3]) = G4 at *
    have a5 : Same G4 (upd G4 l (.lst [.ref p2, .ref p4])) := same_upd nl
    have e5 : (upd G4 l (.lst [.ref p2, .ref p4])) l = some (.lst [.ref p2, .ref p4]) := upd_same
    generalize upd G4 l (.lst [.ref p2, .ref p4]) = H6 at *
    have a35 := Same.trans a3 (Same.trans a4 a5)
    have a25 := Same.trans a2 a35
    have a15 := Same.trans a1 a25
    have a45 := Same.trans a4 a5
    have r1 : Rp H6 (.ref p2) (dN (.either w1 (.nt w1))) := .tup (a35 _ _ e2) (.cons (.str _) (.cons (h1.same a15) (.cons (.tup (a25 _ _ e1) (.cons (.str _) (.cons (h1.same a15) .nil))) .nil)))
    have r2 : Rp H6 (.ref p4) (dN (.both w1 (.nt w1))) := .tup (a5 _ _ e4) (.cons (.str _) (.cons (h1.same a15) (.cons (.tup (a45 _ _ e3) (.cons (.str _) (.cons (h1.same a15) .nil))) .nil)))
    have el := e5
    have T6 := T1.same a15
    have x6 := x1.trans (Same.ex a15)
    have hf6 := hf1.same a15
    have nlt : l ≠ t := ((((T1.same a1).same a2).same a3).same a4).ne_none nl
    have nlH : H l = none := (x1.trans (Same.ex (Same.trans a1 (Same.trans a2 (Same.trans a3 a4))))).free nlt nl
    refine ⟨.ref l, rfl, 4, rfl, by decide, by decide, fun D nD => ?_⟩
    have nDt := T6.ne_none nD
    have nDH : H D = none := x6.free nDt nD
    have nlD : l ≠ D := ne_of_none el nD
    have hb3 : bud 3 = 150 := rfl
    refine lc_it (walk_range (lo := 0) (n := (4 : Int).toNat)) (fun i H7 => ∃ (ws : List Wn) (us : List V), Ex t H6 H7 ∧ TapeAt H7 t (N + 70 + 151 * i) ∧ H7 D = some (.lst us) ∧ RpAll H7 us (ws.map dN) ∧ ws.length = i ∧ ∀ wn ∈ ws, WOk fs wn ∧ dep wn ≤ 4) ⟨[], [], Same.ex (same_upd nD), (T6.upd nDt).mono (by omega), upd_same, .nil, rfl, fun w hw => by cases hw⟩ (fun _ _ _ _ => trivial) ?_ ?_
    · rintro i x H8 H7 hi ⟨ws, us, x7, T7, d7, r7, l7, w7⟩ ⟨rfl, rfl⟩
      have hi4 : i < 4 := hi
      have hf7 := hf6.keep (T6.keepT x7) (imm_dF fs)
      refine ⟨rfl, .ref t, rfl, fv, rfl, .ref t, rfl, t, 3, _, rfl, by decide, by decide, T7, by omega, fun r H9 x9 T9 h90 h91 => ?_⟩
      obtain ⟨r', rfl⟩ : ∃ r' : Nat, r = r' := ⟨r.toNat, by omega⟩
      have hbr : bud (1 + r') ≤ bud 3 := bud_mono (by omega)
      refine ⟨1, (r' : Int), rfl, rfl, t, fv, 1 + r', _, fs, by rfl, by omega, by omega, hf7.keep (T7.keepT x9) (imm_dF fs), hfo, hl1, hl4, T9, by omega, fun v2 H10 w2 x10 T10 h2 ok2 dp2 => ?_⟩
      have x710 := x9.trans x10
      have d10 := x710 _ _ nDt d7
      have kT : KeepT H10 (upd H10 D (.lst (us ++ [v2]))) := keepT_lst d10
      refine ⟨us, d10, ?_, ws ++ [w2], us ++ [v2], ?_, ?_, upd_same, ?_, ?_, ?_⟩
      · rw [r7.length, List.length_map, l7]
        exact small1000 (by omega)
      · exact (x7.trans x710).upd_free nD
      · exact (T10.upd nDt).mono (by omega)
      · rw [List.map_append]
        exact ((r7.keep (T7.keepT x710) (immAll_map imm_dN ws)).keep kT (immAll_map imm_dN ws)).append (.cons (h2.keep kT (imm_dN w2)) .nil)
      · rw [List.length_append, l7]
        rfl
      · intro wn hwn
        rcases List.mem_append.mp hwn with z | z
        · exact w7 wn z
        · rw [List.mem_singleton.mp z]
          exact ⟨ok2, by omega⟩
    · rintro H7 ⟨ws, us, x7, T7, d7, r7, l7, w7⟩
      have l7 : ws.length = 4 := l7
      have el7 := x7 _ _ nlt el
      have hul := r7.length
      rw [List.length_map] at hul
      refine ⟨l, D, _, us, rfl, rfl, el7, d7, sz _ (by simp; omega), fun p np => ?_⟩
      have npt := T7.ne_none np
      have kk := T6.keepT x7
      refine q p _ (.either w1 (.nt w1) :: .both w1 (.nt w1) :: ws) ((x6.trans x7).trans (Same.ex (same_upd np))) ((T7.upd npt).mono (by first | omega | (simp; done) | (simp; omega))) ((x6.trans x7).free npt np) (.lst upd_same ?_) (by first | omega | (simp; done) | (simp; omega)) fun wn hwn => ?_
      · exact RpAll.cons ((r1.keep kk (imm_dN _)).same (same_upd np)) (.cons ((r2.keep kk (imm_dN _)).same (same_upd np)) (r7.same (same_upd np)))
      · rcases List.mem_cons.mp hwn with z | hwn
        · rw [z]
          refine ⟨⟨ok1, ok1⟩, ?_⟩
          show max (dep w1) (dep w1 + 1) + 1 ≤ 4
          omega
        rcases List.mem_cons.mp hwn with z | hwn
        · rw [z]
          refine ⟨⟨ok1, ok1⟩, ?_⟩
          show max (dep w1) (dep w1 + 1) + 1 ≤ 4
          omega
        exact w7 wn hwn
end
end Sg

namespace Sg
open PySem PySem.Spec PyProof.Rows L2
abbrev sRight : Stmt := topS 21
abbrev nRight : List Str := ["_law_tape_here", "_law_a_facets", "_law_every", "_law_a_when", "_law_due", "_law_some", "_law_dues", "_law_a_setting", "_law_pair", "_law_word", "_law_turn", "_law_a_case"]
theorem scRight : FnScope nRight ["_law_tape_here"] (defScope sRight) := ⟨rfl, rfl, rfl, by decide +kernel, rfl, by decide +kernel, by decide +kernel⟩
def rev3G {α : Type} : List α → List α → List α
  | [], [x, y, z] => [z, y, x]
  | _, _ => []
theorem rev3G_rel {vs zs : List V} {us ws : List Value} (r1 : Vals vs us) (r2 : Vals zs ws) : Vals (rev3G vs zs) (rev3G us ws) := by
  cases r1 with
  | cons _ _ => exact .nil
  | nil =>
    cases r2 with
    | nil => exact .nil
    | cons a r3 =>
      cases r3 with
      | nil => exact .nil
      | cons b r4 =>
        cases r4 with
        | nil => exact .nil
        | cons c r5 =>
          cases r5 with
          | nil => exact .cons c (.cons b (.cons a .nil))
          | cons _ _ => exact .nil
theorem kb_rev3 {K : PySem.W.Frag} {x : Str} {st : Stmt} {f : Addr} {fd : FuncData} (F : Fun K x x st f fd) {a b c : Str}
    (h : ∀ (kV doc pm : Value) (an : Option Addr) (cdv ct : Value) (u v w : Value), bindArgs (PySem.W.fnOf x x (defArgs st) (defBody st) (defScope st) .none kV doc pm an cdv ct) ⟨[], [(c, w), (b, v), (a, u)]⟩ = pure [(a, u), (b, v), (c, w)]) : KBinds K fd [a, b, c] [c, b, a] rev3G rev3G := by
  obtain ⟨oc, od, kV, doc, pm, an, cdv, ct, osl, rfl, lk, hcd⟩ := F.ex
  refine ⟨fun s us ws _ hl => ?_, rev3G_rel⟩
  match us, ws, hl with
  | [], [w, v, u], _ => exact .of_eq (h kV doc pm an cdv ct u v w)
theorem cut_take (xs : List V) (i : Nat) (h : i ≤ xs.length) : cutV xs none (some (i : Int)) = xs.take i := by
  unfold cutV
  rw [show HT.sIx xs.length 0 none = 0 from rfl, HT.sIx_nat, List.drop_zero, Nat.sub_zero, Nat.min_eq_left h]
theorem fit_told (n : Nat) (bs : List Bool) : Fit n (toldB bs) := by
  unfold toldB
  split
  · cases n <;> trivial
  · split <;> cases n <;> trivial
theorem imm_told (bs : List Bool) : imm (toldB bs) = true := by
  unfold toldB
  split
  · rfl
  · split <;> rfl
theorem fit_list (n : Nat) {α : Type} {xs : List α} {f : α → PyData} (hl : xs.length ≤ 1000) (hf : ∀ x, Fit n (f x)) : Fit (n + 1) (.list (xs.map f)) := ⟨by rw [List.length_map]; exact hl, fun d hd => by
  obtain ⟨x, _, rfl⟩ := List.mem_map.mp hd
  exact hf x⟩
theorem settings_words {c : List (List Str)} : ∀ i, i ≤ c.length → ∀ s ∈ settingsM (c.take i), ∀ w ∈ s, ∃ ws ∈ c, w ∈ ws
  | 0, _, s, h, w, hw => by
    have : s = [] := by simpa [settingsM] using h
    rw [this] at hw
    cases hw
  | i + 1, hi, s, h, w, hw => by
    rw [settingsM_succ c i hi] at h
    unfold stepM at h
    obtain ⟨a, ha, hs⟩ := List.mem_flatMap.mp h
    obtain ⟨w2, hw2, rfl⟩ := List.mem_map.mp hs
    rcases List.mem_append.mp hw with z | z
    · exact settings_words i (by omega) a ha w z
    · rw [List.mem_singleton.mp z]
      exact ⟨_, List.getElem_mem hi, hw2⟩
theorem single_ok {c : List (List Str)} (h : COk c) {s : List Str} (hs : s ∈ settingsM c) : COk (s.map fun w => [w]) ∧ (s.map fun w => [w]).length = c.length := by
  have hl := (settings_small h).2 s hs
  have hw := settings_words (c := c) c.length (Nat.le_refl _) s (by rw [List.take_length]; exact hs)
  refine ⟨⟨by rw [List.length_map, hl]; exact h.1, fun ws hws => ?_⟩, by rw [List.length_map, hl]⟩
  obtain ⟨w, hw1, rfl⟩ := List.mem_map.mp hws
  refine ⟨Nat.le_refl _, by simp, fun x hx => ?_⟩
  rw [List.mem_singleton.mp hx]
  obtain ⟨ws, hws2, hm⟩ := hw w hw1
  exact (h.2 ws hws2).2.2 w hm
section
variable {P : Program} {w : World} {K : PySem.W.Frag} {mg : Str → Option Value} {base : Heap}
def spRight : Sp := fun vs H Q _ => ∃ (t : Addr), vs = [.ref t] ∧ TapeAt H t 0 ∧ ∀ (H' : Hp), Ex t H H' → Q (.bl true) H'
theorem ok_right {f fD fF fA fW fH fL fS fT fU fC : Addr} {fd fdD fdF fdA fdW fdH fdL fdS fdT fdU fdC : FuncData} (F : Fun K "_law_right" "_law_right" sRight f fd)
    (FD : Fun K "_law_draw" "_law_draw" sDraw fD fdD) (bD : Binds K fdD ["_law_tape_here", "_law_many"] []) (gD : mg "_law_draw" = some (.ref fD)) (GD : FnOk P w K mg base CX0 7 fD fdD ["_law_tape_here", "_law_many"] spDraw)
    (FF : Fun K "_law_facets" "_law_facets" sFacets fF fdF) (bF : Binds K fdF ["_law_tape_here", "_law_many", "_law_most"] []) (gF : mg "_law_facets" = some (.ref fF)) (GF : FnOk P w K mg base CX0 7 fF fdF ["_law_tape_here", "_law_many", "_law_most"] spFacets)
    (FA : Fun K "_law_all" "_law_all" sAll fA fdA) (bA : Binds K fdA ["_law_a_facets"] []) (gA : mg "_law_all" = some (.ref fA)) (GA : FnOk P w K mg base CX0 7 fA fdA ["_law_a_facets"] spAll)
    (FW : Fun K "_law_whens" "_law_whens" sWhens fW fdW) (bW : Binds K fdW ["_law_tape_here", "_law_a_facets"] []) (gW : mg "_law_whens" = some (.ref fW)) (GW : FnOk P w K mg base CX0 7 fW fdW ["_law_tape_here", "_law_a_facets"] spWhens)
    (FH : Fun K "holds" "holds" sHolds fH fdH) (bH : Binds K fdH ["facets", "when", "setting"] []) (kH : KBinds K fdH ["facets", "when", "setting"] ["setting", "when", "facets"] rev3G rev3G) (gH : mg "holds" = some (.ref fH)) (GH : FnOk P w K mg base CX0 7 fH fdH ["facets", "when", "setting"] (spHolds 4))
    (FL : Fun K "_law_holds" "_law_holds" sLHolds fL fdL) (bL : Binds K fdL ["_law_its_facets", "_law_its_when", "_law_its_setting"] []) (gL : mg "_law_holds" = some (.ref fL)) (GL : FnOk P w K mg base CX0 7 fL fdL ["_law_its_facets", "_law_its_when", "_law_its_setting"] (spHolds 4))
    (FS : Fun K "_law_same" "_law_same" sSame fS fdS) (bS : Binds K fdS ["_law_found", "_law_due"] []) (gS : mg "_law_same" = some (.ref fS)) (GS : FnOk P w K mg base CX0 7 fS fdS ["_law_found", "_law_due"] (spSame 7))
    (FT : Fun K "told_in" "told_in" sToldIn fT fdT) (bT : Binds K fdT ["facets", "when", "case"] []) (kT : KBinds K fdT ["facets", "when", "case"] ["case", "when", "facets"] rev3G rev3G) (gT : mg "told_in" = some (.ref fT)) (GT : FnOk P w K mg base CX0 7 fT fdT ["facets", "when", "case"] (spToldIn 4))
    (FU : Fun K "_law_told_in" "_law_told_in" sLToldIn fU fdU) (bU : Binds K fdU ["_law_a_facets", "_law_a_when", "_law_a_case"] []) (gU : mg "_law_told_in" = some (.ref fU)) (GU : FnOk P w K mg base CX0 7 fU fdU ["_law_a_facets", "_law_a_when", "_law_a_case"] (spToldIn 4))
    (FC : Fun K "_law_case" "_law_case" sCase fC fdC) (bC : Binds K fdC ["_law_tape_here", "_law_a_facets"] []) (gC : mg "_law_case" = some (.ref fC)) (GC : FnOk P w K mg base CX0 7 fC fdC ["_law_tape_here", "_law_a_facets"] spCase)
    (ml : mg "len" = none) (mr : mg "range" = none) (mt : mg "tuple" = none) : FnOk P w K mg base CX0 8 f fd ["_law_tape_here"] spRight := by
  refine F.ok scRight (fun vs H Q E h => ?_) (fun cdv A outer s H vs Q E hr h => ?_)
  · obtain ⟨t, rfl, _⟩ := h
    rfl
  · obtain ⟨t, rfl, hT, q⟩ := h
    refine ⟨_, pss_cons (ps_set (i := 1) scRight.nd rfl (.inr rfl) (pe_call GF hr (by rfl) gF FF.kp bF .nil pass0 (pa_cons (pv 0) (pa_cons (pe_op op_add pe_int (pe_call GD hr (by rfl) gD FD.kp bD .nil pass0 (pa_cons (pv 0) (pa_cons pe_int pa_nil)))) (pa_cons (pe_op op_add pe_int (pe_call GD hr (by rfl) gD FD.kp bD .nil pass0 (pa_cons (pv 0) (pa_cons pe_int pa_nil)))) pa_nil)))))
      (pss_cons (ps_set (i := 2) scRight.nd rfl (.inl rfl) (pe_call GA hr (by rfl) gA FA.kp bA .nil pass0 (pa_cons (pv 1) pa_nil)))
      (pss_cons (ps_for PassesOwn.never rfl (pi_list (pe_call GW hr (by rfl) gW FW.kp bW .nil pass0 (pa_cons (pv 0) (pa_cons (pv 1) pa_nil)))) (pg_name (i := 3) scRight.nd rfl (.inr rfl))
        (pss_cons (ps_setLc (i := 4) (own := [("_law_a_setting", 7)]) (g := gName 7) (tt := tYes) (te := tCall (spHolds 4) [] E0 (tCons (tVar 1) (tCons (tVar 3) (tCons (tVar 7) tNil)))) rfl scRight.nd rfl rfl (sw_true rfl rfl rfl (by decide +kernel)) (pi_list (pv 2)) (blkOk_by (N := nRight) (sc := defScope sRight) (by decide +kernel))
            (fun _ _ _ _ _ => pg_name (i := 7) scRight.nd rfl (.inl rfl)) (fun _ _ _ _ _ => pts_nil) (fun _ _ _ _ _ => pe_call GL hr (by rfl) gL FL.kp bL .nil pass0 (pa_cons (pv 1) (pa_cons (pv 3) (pa_cons (pv 7) pa_nil)))))
        (pss_cons (ps_if (pt_not (pt_val (pe_call GS hr (by rfl) gS FS.kp bS .nil pass0 (pa_cons (pe_lc (own := [("_law_a_setting", 7)]) (g := gName 7) (tt := tYes) (te := tCall (spHolds 4) [] E0 (tCons (tVar 1) (tCons (tVar 3) (tCons (tVar 7) tNil)))) rfl scRight.nd (pi_list (pv 2)) (blkOk_by (N := nRight) (sc := defScope sRight) (by decide +kernel))
            (fun _ _ _ _ _ => pg_name (i := 7) scRight.nd rfl (.inl rfl)) (fun _ _ _ _ _ => pts_nil) (fun _ _ _ _ _ => pe_call GH hr (by rfl) gH FH.kp bH .nil pass0 (pa_cons (pv 1) (pa_cons (pv 3) (pa_cons (pv 7) pa_nil))))) (pa_cons (pv 4) pa_nil))))) (pss_one (ps_ret pe_bl)) pss_nil)
        (pss_cons (ps_set (i := 5) scRight.nd rfl (.inl rfl) (pe_lst (pa_cons (pe_tupleOf (by rfl) mt (pe_lc (own := [("_law_pair", 8)]) (g := gName 8) (tt := tYes) (te := tOp (rIxT K) (tVar 8) (tC (.int 1))) rfl scRight.nd (pi_tup (pv 1)) (blkOk_by (N := nRight) (sc := defScope sRight) (by decide +kernel)) (fun _ _ _ _ _ => pg_name (i := 8) scRight.nd rfl (.inl rfl)) (fun _ _ _ _ _ => pts_nil) (fun _ _ _ _ _ => pe_ix ix_tup (pv 8) pe_int (fun _ _ => rfl))))
            (pa_cons (pe_tupleOf (by rfl) mt (pe_lc (own := [("_law_word", 9)]) (g := gName 9) (tt := tYes) (te := tTup (tCons (tVar 9) tNil)) rfl scRight.nd (pi_tup (pe_ix ix_list (pv 2) (pe_call GD hr (by rfl) gD FD.kp bD .nil pass0 (pa_cons (pv 0) (pa_cons (pe_callB call_len_seq (by rfl) ml PySem.boot_len (pa_cons (pv 2) pa_nil)) pa_nil))) (fun _ _ => rfl))) (blkOk_by (N := nRight) (sc := defScope sRight) (by decide +kernel)) (fun _ _ _ _ _ => pg_name (i := 9) scRight.nd rfl (.inl rfl)) (fun _ _ _ _ _ => pts_nil) (fun _ _ _ _ _ => pe_tup (pa_cons (pv 9) pa_nil)))) pa_nil))))
        (pss_cons (ps_set (i := 5) scRight.nd rfl (.inl rfl) (pe_op op_cat (pv 5) (pe_lc (own := [("_law_turn", 10)]) (g := gName 10) (tt := tYes) (te := tCall spCase [] E0 (tCons (tVar 0) (tCons (tVar 1) tNil))) rfl scRight.nd (pi_range1 rfl mr (pa_cons pe_int pa_nil)) (blkOk_by (N := nRight) (sc := defScope sRight) (by decide +kernel)) (fun _ _ _ _ _ => pg_name (i := 10) scRight.nd rfl (.inl rfl)) (fun _ _ _ _ _ => pts_nil) (fun _ _ _ _ _ => pe_call GC hr (by rfl) gC FC.kp bC .nil pass0 (pa_cons (pv 0) (pa_cons (pv 1) pa_nil))))))
        (pss_cons (ps_setLc (i := 6) (own := [("_law_a_case", 11)]) (g := gName 11) (tt := tYes) (te := tCall (spToldIn 4) [] E0 (tCons (tVar 1) (tCons (tVar 3) (tCons (tVar 11) tNil)))) rfl scRight.nd rfl rfl (sw_true rfl rfl rfl (by decide +kernel)) (pi_list (pv 5)) (blkOk_by (N := nRight) (sc := defScope sRight) (by decide +kernel))
            (fun _ _ _ _ _ => pg_name (i := 11) scRight.nd rfl (.inl rfl)) (fun _ _ _ _ _ => pts_nil) (fun _ _ _ _ _ => pe_call GU hr (by rfl) gU FU.kp bU .nil pass0 (pa_cons (pv 1) (pa_cons (pv 3) (pa_cons (pv 11) pa_nil)))))
        (pss_cons (ps_if (pt_not (pt_val (pe_call GS hr (by rfl) gS FS.kp bS .nil pass0 (pa_cons (pe_lc (own := [("_law_a_case", 11)]) (g := gName 11) (tt := tYes) (te := tCall (spToldIn 4) [] E0 (tCons (tVar 1) (tCons (tVar 3) (tCons (tVar 11) tNil)))) rfl scRight.nd (pi_list (pv 5)) (blkOk_by (N := nRight) (sc := defScope sRight) (by decide +kernel))
            (fun _ _ _ _ _ => pg_name (i := 11) scRight.nd rfl (.inl rfl)) (fun _ _ _ _ _ => pts_nil) (fun _ _ _ _ _ => pe_call GT hr (by rfl) gT FT.kp bT .nil pass0 (pa_cons (pv 1) (pa_cons (pv 3) (pa_cons (pv 11) pa_nil))))) (pa_cons (pv 6) pa_nil))))) (pss_one (ps_ret pe_bl)) pss_nil)
        (pss_one (ps_if (pt_not (pt_val (pe_call GS hr (by rfl) gS FS.kp bS .nil pass0 (pa_cons (pe_lc (own := [("_law_a_case", 11)]) (g := gName 11) (tt := tYes) (te := tCallK (spToldIn 4) rev3G E0 tNil (tCons (tVar 11) (tCons (tVar 3) (tCons (tVar 1) tNil)))) rfl scRight.nd (pi_list (pe_slice sl_list (pv 5) po_none (po_some pe_int))) (blkOk_by (N := nRight) (sc := defScope sRight) (by decide +kernel))
            (fun _ _ _ _ _ => pg_name (i := 11) scRight.nd rfl (.inl rfl)) (fun _ _ _ _ _ => pts_nil) (fun _ _ _ _ _ => pe_callK0 GT hr (by rfl) gT FT.kp kT pass0 (pk_cons (pv 11) (pk_cons (pv 3) (pk_cons (pv 1) pk_nil))))) (pa_cons (pe_slice sl_list (pv 6) po_none (po_some pe_int)) pa_nil))))) (pss_one (ps_ret pe_bl)) pss_nil)))))))))
      (pss_one (ps_ret (pe_call GS hr (by rfl) gS FS.kp bS .nil pass0 (pa_cons (pe_callK0 GH hr (by rfl) gH FH.kp kH pass0 (pk_cons (pe_ix ix_list (pv 2) pe_int (fun _ _ => rfl)) (pk_cons (pe_tup (pa_cons pe_str pa_nil)) (pk_cons (pv 1) pk_nil)))) (pa_cons pe_bl pa_nil))))))), ?_⟩
    -- the facets
    refine ⟨.ref t, rfl, .ref t, rfl, t, 4, 0, rfl, by decide, by decide, hT, by omega, fun r1 H1 x1 T1 h10 h11 => ⟨1, r1, rfl, rfl, ?_⟩⟩
    obtain ⟨r1', rfl⟩ : ∃ r' : Nat, r1 = r' := ⟨r1.toNat, by omega⟩
    refine ⟨.ref t, rfl, t, 3, 1, rfl, by decide, by decide, T1, by omega, fun r2 H2 x2 T2 h20 h21 => ⟨2, r2, rfl, rfl, t, 1 + r1', 2, 2 + r2, by rfl, by omega, by omega, by omega, T2, by omega, fun fv H3 fs x3 T3 hfv hfl hfo => ?_⟩⟩
    obtain ⟨a, fvs, rfl, ha, hs⟩ := hfv.tup_inv
    have hfs1 : 1 ≤ fs.length := by omega
    have hfs4 : fs.length ≤ 4 := by omega
    have okE : COk (fs.map (·.2)) := COk.of hfo hfs4
    have hEl : (fs.map (·.2)).length = fs.length := List.length_map _
    -- every
    refine ⟨.ref a, rfl, .ref a, fs, rfl, hfv, hfo, hfs4, fun ev H4 s4 nev hev => ?_⟩
    have x04 := ((x1.trans x2).trans x3).trans (Same.ex s4)
    have T4 := T3.same s4
    have hF4 := hfv.same s4
    obtain ⟨eus, e4, rE4⟩ := hev.lst_inv
    have hsm := settings_small okE
    have hne := settings_ne' okE
    have hone := fun (s : List Str) (h : s ∈ settingsM (fs.map (·.2))) => single_ok okE h
    generalize hss : settingsM (fs.map (·.2)) = ss at *
    have hssl : 1 ≤ ss.length := List.length_pos_iff.mpr hne
    have hel := rE4.length
    rw [List.length_map] at hel
    have nevt : ev ≠ t := T3.ne_none nev
    -- the whens
    refine ⟨.ref t, rfl, .ref a, rfl, t, .ref a, _, fs, rfl, hF4, hfo, hfs1, hfs4, T4, by omega, fun wl H5 ws x5 T5 nwl hwl lws okws => ?_⟩
    obtain ⟨wus, e5, rW5⟩ := hwl.lst_inv
    have hwll := rW5.length
    rw [List.length_map] at hwll
    have nwlt : wl ≠ t := T4.ne_none nwl
    refine ⟨wl, rfl, ⟨wus, SqL.of e5⟩, ?_⟩
    refine for_it (walk_list (xs := wus)) (fun i σ G => ∃ (y3 y4 y5 y6 : Option V), σ = [some (.ref t), some (.ref a), some (.ref ev), y3, y4, y5, y6, none, none, none, none, none] ∧ Ex t H G ∧ TapeAt G t (802 + 121 * i) ∧ Rp G (.ref a) (dF fs) ∧ G ev = some (.lst eus) ∧ RpAll G eus (ss.map dW) ∧ G wl = some (.lst wus) ∧ RpAll G wus (ws.map dN))
      ⟨_, _, _, _, rfl, x04.trans x5, T5.mono (by omega), hF4.keep (T4.keepT x5) (imm_dF fs), x5 _ _ nevt e4, rE4.keep (T4.keepT x5) (immAll_map imm_dW ss), e5, rW5⟩ ?_ ?_ ?_
    · rintro i σ G _ ⟨y3, y4, y5, y6, rfl, xG, TG, hF, eE, rE, eW, rW⟩
      exact SqL.of eW
    · rintro i wv σ G0 G hi ⟨y3, y4, y5, y6, rfl, xG, TG, hF, eE, rE, eW, rW⟩ ⟨rfl, fx⟩
      have hi6 : i < ws.length := by omega
      obtain ⟨dd, hdd, hW⟩ := rW.get fx
      rw [List.getElem?_map, List.getElem?_eq_getElem hi6] at hdd
      cases hdd
      obtain ⟨okw, dpw⟩ := okws _ (List.getElem_mem hi6)
      generalize ws[i] = wn at hW okw dpw
      -- due
      refine ⟨.ref ev, rfl, ev, rfl, ⟨eus, SqL.of eE⟩, fun D1 nD1 => calls_lc (xs := ss) (d := dW) (val := fun s => .bool (holdsM fs s wn)) nD1 eE rE (by omega) (fun _ => rfl) (fun _ => rfl) (fun j hj x J Q2 sJ hx hq => ?_) (fun G1 ts1 s1 d1 r1 => ?_)⟩
      · exact ⟨.ref a, rfl, wv, rfl, x, rfl, .ref a, wv, x, fs, wn, ss[j], rfl, hF.same sJ, hW.same sJ, hx, okw, dpw, by rw [hsm.2 _ (List.getElem_mem hj), hEl], by omega, fun J2 sJ2 => hq _ _ sJ2 (.bl _)⟩
      -- holds
      refine ⟨.ref ev, rfl, ev, rfl, ⟨eus, SqL.of (s1 _ _ eE)⟩, fun D2 nD2 => calls_lc (xs := ss) (d := dW) (val := fun s => .bool (holdsM fs s wn)) nD2 (s1 _ _ eE) (rE.same s1) (by omega) (fun _ => rfl) (fun _ => rfl) (fun j hj x J Q2 sJ hx hq => ?_) (fun G2 ts2 s2 d2 r2 => ?_)⟩
      · exact ⟨.ref a, rfl, wv, rfl, x, rfl, .ref a, wv, x, fs, wn, ss[j], rfl, (hF.same s1).same sJ, (hW.same s1).same sJ, hx, okw, dpw, by rw [hsm.2 _ (List.getElem_mem hj), hEl], by omega, fun J2 sJ2 => hq _ _ sJ2 (.bl _)⟩
      refine ⟨.ref D1, rfl, .ref D2, .ref D1, .list (ss.map fun s => .bool (holdsM fs s wn)), rfl, .lst d2 r2, .lst (s2 _ _ d1) (r1.same s2), fit_list 5 (by omega) (fun _ => trivial), fun G3 s3 => ⟨true, rfl, ?_⟩⟩
      have sG3 := Same.trans s1 (Same.trans s2 s3)
      have xG3 := xG.trans (Same.ex sG3)
      have TG3 := TG.same sG3
      have hF3 := hF.same sG3
      have hW3 := hW.same sG3
      have eE3 := sG3 _ _ eE
      have rE3 := rE.same sG3
      have eW3 := sG3 _ _ eW
      have rW3 := rW.same sG3
      clear hF hW eE rE eW rW xG TG s1 s2 s3 d1 r1 d2 r2
      -- some: the case of all
      obtain ⟨a', fvs', ea, haf, hsf⟩ := hF3.tup_inv
      cases ea
      refine ⟨.ref a, rfl, a, rfl, ⟨_, SqT.of haf⟩, fun D3 nD3 => seconds_lc nD3 haf hsf (by omega) (fun _ => rfl) (fun _ => rfl) fun G4 us4 s4' d4 r4 => .inl ⟨D3, us4, rfl, SqL.of d4, fun c1 nc1 => ?_⟩⟩
      have s5 : Same G3 (upd G4 c1 (.tup us4)) := Same.trans s4' (same_upd nc1)
      have hc1 : Rp (upd G4 c1 (.tup us4)) (.ref c1) (dC (fs.map (·.2))) := .tup upd_same (r4.same (same_upd nc1))
      generalize upd G4 c1 (.tup us4) = G5 at s5 hc1 ⊢
      have TG5 := TG3.same s5
      -- a single setting
      refine ⟨.ref ev, rfl, .ref t, rfl, .ref ev, rfl, ev, eus, rfl, .inl (SqL.of (s5 _ _ eE3)), t, _, _, rfl, by omega, by omega, TG5, by omega, fun r G6 x6 T6 h60 h61 => ?_⟩
      obtain ⟨j, rfl⟩ : ∃ j : Nat, r = j := ⟨r.toNat, by omega⟩
      have hj : j < ss.length := by omega
      obtain ⟨vj, hvj, rvj⟩ := (rE3.same s5).getD (show (ss.map dW)[j]? = some (dW ss[j]) by rw [List.getElem?_map, List.getElem?_eq_getElem hj]; rfl)
      have k6 := TG5.keepT x6
      obtain ⟨sj, rfl, hsj⟩ := (rvj.keep k6 (imm_dW _)).dW_inv
      have hc6 := hc1.keep k6 (imm_dC _)
      have h1j := hone ss[j] (List.getElem_mem hj)
      have hsjl : ss[j].length ≤ 4 := by rw [hsm.2 _ (List.getElem_mem hj), hEl]; exact hfs4
      generalize ss[j] = st at hsj h1j hsjl
      refine ⟨ev, eus, (j : Int), .ref sj, rfl, rfl, SqL.of (x6 _ _ nevt (s5 _ _ eE3)), atI_nat hvj, sj, rfl, ⟨_, SqT.of hsj⟩, fun D4 nD4 => ?_⟩
      refine lc_it (walk_tup (xs := st.map V.str)) (fun m J => ∃ us : List V, Same G6 J ∧ J D4 = some (.lst us) ∧ RpAll J us (((st.take m).map fun w => [w]).map dW)) ⟨[], same_upd nD4, upd_same, .nil⟩ (fun m J _ h3 => let ⟨_, sJ, _⟩ := h3; SqT.of (sJ _ _ hsj)) ?_ ?_
      · rintro m x J0 J hm ⟨us, sJ, dJ, rJ⟩ ⟨rfl, fz⟩
        rw [List.length_map] at hm
        rw [List.getElem?_map, List.getElem?_eq_getElem hm] at fz
        cases fz
        refine ⟨rfl, _, rfl, by show 1 ≤ sizeLine; decide, fun p np => ?_⟩
        have sp : Same J (upd J p (.tup [.str st[m]])) := same_upd np
        have dp := sp _ _ dJ
        refine ⟨us, dp, ?_, us ++ [.ref p], fun b o e => ?_, upd_same, ?_⟩
        · rw [rJ.length, List.length_map, List.length_map, List.length_take]
          exact small1000 (by omega)
        · rw [upd_ne (fun z => by subst z; rw [nD4] at e; cases e)]
          exact sp _ _ (sJ _ _ e)
        · rw [List.take_succ_eq_append_getElem hm, List.map_append]
          exact RpAll.snoc dp (rJ.same sp) upd_same
      rintro G7 ⟨us7, s7, d7, r7⟩
      rw [List.length_map, List.take_length] at r7
      refine .inl ⟨D4, us7, rfl, SqL.of d7, fun c2 nc2 => ⟨by show 2 ≤ sizeLine; decide, fun l5 nl5 => ?_⟩⟩
      have b1 : Same G7 (upd G7 c2 (.tup us7)) := same_upd nc2
      have hc2 : Rp (upd G7 c2 (.tup us7)) (.ref c2) (dC (st.map fun w => [w])) := .tup upd_same (r7.same b1)
      generalize upd G7 c2 (.tup us7) = G8 at *
      have b2 : Same G8 (upd G8 l5 (.lst [.ref c1, .ref c2])) := same_upd nl5
      have el5 : (upd G8 l5 (.lst [.ref c1, .ref c2])) l5 = some (.lst [.ref c1, .ref c2]) := upd_same
      generalize upd G8 l5 (.lst [.ref c1, .ref c2]) = G9 at *
      have s69 := Same.trans s7 (Same.trans b1 b2)
      have T9 := T6.same s69
      have nl5t : l5 ≠ t := ((T6.same s7).same b1).ne_none nl5
      have x9 := (xG3.trans (Same.ex s5)).trans (x6.trans (Same.ex s69))
      have hF9 := ((hF3.same s5).keep k6 (imm_dF fs)).same s69
      have hW9 := ((hW3.same s5).keep k6 (imm_dN wn)).same s69
      have eE9 := s69 _ _ (x6 _ _ nevt (s5 _ _ eE3))
      have rE9 := ((rE3.same s5).keep k6 (immAll_map imm_dW ss)).same s69
      have eW9 := s69 _ _ (x6 _ _ nwlt (s5 _ _ eW3))
      have rW9 := ((rW3.same s5).keep k6 (immAll_map imm_dN ws)).same s69
      have hc19 := hc6.same s69
      have hc29 := hc2.same b2
      -- the drawn cases
      refine ⟨.ref l5, rfl, 6, rfl, by decide, by decide, fun D5 nD5 => ?_⟩
      have nD5t := T9.ne_none nD5
      have nl5D : l5 ≠ D5 := ne_of_none el5 nD5
      refine lc_it (walk_range (lo := 0) (n := (6 : Int).toNat)) (fun m J => ∃ (cs : List (List (List Str))) (us : List V), Ex t G9 J ∧ TapeAt J t (802 + 121 * i + 1 + 20 * m) ∧ J D5 = some (.lst us) ∧ RpAll J us (cs.map dC) ∧ cs.length = m ∧ ∀ c ∈ cs, COk c ∧ c.length = fs.length) ⟨[], [], Same.ex (same_upd nD5), T9.upd nD5t, upd_same, .nil, rfl, fun c hc => by cases hc⟩ (fun _ _ _ _ => trivial) ?_ ?_
      · rintro m x J0 J hm ⟨cs, us, xJ, TJ, dJ, rJ, lJ, wJ⟩ ⟨rfl, rfl⟩
        have hm6 : m < 6 := hm
        have hFJ := hF9.keep (T9.keepT xJ) (imm_dF fs)
        refine ⟨rfl, .ref t, rfl, .ref a, rfl, t, .ref a, _, fs, rfl, hFJ, hfo, hfs4, TJ, by omega, fun v2 J2 c xJ2 TJ2 hc lc okc => ?_⟩
        have dJ2 := xJ2 _ _ nD5t dJ
        have kT2 : KeepT J2 (upd J2 D5 (.lst (us ++ [v2]))) := keepT_lst dJ2
        refine ⟨us, dJ2, ?_, cs ++ [c], us ++ [v2], ?_, ?_, upd_same, ?_, ?_, ?_⟩
        · rw [rJ.length, List.length_map, lJ]
          exact small1000 (by omega)
        · exact (xJ.trans xJ2).upd_free nD5
        · exact (TJ2.upd nD5t).mono (by omega)
        · rw [List.map_append]
          exact ((rJ.keep (TJ.keepT xJ2) (immAll_map imm_dC cs)).keep kT2 (immAll_map imm_dC cs)).append (.cons (hc.keep kT2 (imm_dC c)) .nil)
        · rw [List.length_append, lJ]
          rfl
        · intro c' hc'
          rcases List.mem_append.mp hc' with z | z
          · exact wJ c' z
          · rw [List.mem_singleton.mp z]
            exact ⟨okc, lc⟩
      rintro J ⟨cs6, us6, xJ, TJ, dJ, rJ, lJ, wJ⟩
      have lJ : cs6.length = 6 := lJ
      have elJ := xJ _ _ nl5t el5
      have hul := rJ.length
      rw [List.length_map] at hul
      refine ⟨l5, D5, _, us6, rfl, rfl, elJ, dJ, sz _ (by simp; omega), fun l6 nl6 => ?_⟩
      have kJ := T9.keepT xJ
      have b3 : Same J (upd J l6 (.lst ([.ref c1, .ref c2] ++ us6))) := same_upd nl6
      have el6 : (upd J l6 (.lst ([.ref c1, .ref c2] ++ us6))) l6 = some (.lst ([.ref c1, .ref c2] ++ us6)) := upd_same
      generalize upd J l6 (.lst ([.ref c1, .ref c2] ++ us6)) = M at *
      have xM := (x9.trans xJ).trans (Same.ex b3)
      have TM := TJ.same b3
      have hFM := (hF9.keep kJ (imm_dF fs)).same b3
      have hWM := (hW9.keep kJ (imm_dN wn)).same b3
      have eEM := b3 _ _ (xJ _ _ nevt eE9)
      have rEM := (rE9.keep kJ (immAll_map imm_dW ss)).same b3
      have eWM := b3 _ _ (xJ _ _ nwlt eW9)
      have rWM := (rW9.keep kJ (immAll_map imm_dN ws)).same b3
      obtain ⟨cs, rC, lcs, okcs⟩ : ∃ cs : List (List (List Str)), RpAll M ([.ref c1, .ref c2] ++ us6) (cs.map dC) ∧ cs.length = 8 ∧ ∀ c ∈ cs, COk c ∧ c.length = fs.length := by
        refine ⟨(fs.map (·.2)) :: (st.map fun w => [w]) :: cs6, RpAll.cons ((hc19.keep kJ (imm_dC _)).same b3) (.cons ((hc29.keep kJ (imm_dC _)).same b3) (rJ.same b3)), by simp; omega, fun c hc => ?_⟩
        rcases List.mem_cons.mp hc with z | hc
        · rw [z]
          exact ⟨okE, hEl⟩
        rcases List.mem_cons.mp hc with z | hc
        · rw [z]
          exact ⟨h1j.1, by rw [h1j.2, hEl]⟩
        exact wJ c hc
      have hcl := rC.length
      rw [List.length_map] at hcl
      generalize [V.ref c1, V.ref c2] ++ us6 = cus at *
      -- dues
      refine ⟨.ref l6, rfl, l6, rfl, ⟨cus, SqL.of el6⟩, fun D6 nD6 => calls_lc (xs := cs) (d := dC) (val := fun c => toldM fs wn c) nD6 el6 rC (by omega) (fun _ => imm_told _) (fun _ => rfl) (fun j hj x J1 Q2 sJ1 hx hq => ?_) (fun M1 ts1 s1 d1 r1 => ?_)⟩
      · obtain ⟨ok, hl⟩ := okcs _ (List.getElem_mem hj)
        exact ⟨.ref a, rfl, wv, rfl, x, rfl, .ref a, wv, x, fs, wn, cs[j], rfl, hFM.same sJ1, hWM.same sJ1, hx, okw, dpw, ok, hl, fun r J2 sJ2 hr2 => hq _ _ sJ2 hr2⟩
      refine ⟨.ref l6, rfl, l6, rfl, ⟨cus, SqL.of (s1 _ _ el6)⟩, fun D7 nD7 => calls_lc (xs := cs) (d := dC) (val := fun c => toldM fs wn c) nD7 (s1 _ _ el6) (rC.same s1) (by omega) (fun _ => imm_told _) (fun _ => rfl) (fun j hj x J1 Q2 sJ1 hx hq => ?_) (fun M2 ts2 s2 d2 r2 => ?_)⟩
      · obtain ⟨ok, hl⟩ := okcs _ (List.getElem_mem hj)
        exact ⟨.ref a, rfl, wv, rfl, x, rfl, .ref a, wv, x, fs, wn, cs[j], rfl, (hFM.same s1).same sJ1, (hWM.same s1).same sJ1, hx, okw, dpw, ok, hl, fun r J2 sJ2 hr2 => hq _ _ sJ2 hr2⟩
      refine ⟨.ref D6, rfl, .ref D7, .ref D6, .list (cs.map fun c => toldM fs wn c), rfl, .lst d2 r2, .lst (s2 _ _ d1) (r1.same s2), fit_list 5 (by omega) (fun _ => fit_told 5 _), fun M3 s3 => ⟨true, rfl, ?_⟩⟩
      -- by names, of the first three
      have s13 := Same.trans s1 (Same.trans s2 s3)
      have e3 : cutV cus none (some (3 : Int)) = cus.take 3 := cut_take cus 3 (by omega)
      have ht1 := r1.length
      rw [List.length_map] at ht1
      have e3' : cutV ts1 none (some (3 : Int)) = ts1.take 3 := cut_take ts1 3 (by omega)
      refine ⟨.ref l6, rfl, 3, rfl, l6, cus, rfl, SqL.of (s13 _ _ el6), fun l8 nl8 => ?_⟩
      rw [e3]
      have b4 : Same M3 (upd M3 l8 (.lst (cus.take 3))) := same_upd nl8
      have rT : RpAll (upd M3 l8 (.lst (cus.take 3))) (cus.take 3) ((cs.take 3).map dC) := by
        rw [List.map_take]
        exact ((rC.same s13).same b4).take 3
      refine ⟨l8, rfl, ⟨_, SqL.of upd_same⟩, fun D8 nD8 => calls_lc (xs := cs.take 3) (d := dC) (val := fun c => toldM fs wn c) nD8 upd_same rT (by rw [List.length_take]; omega) (fun _ => imm_told _) (fun _ => rfl) (fun j hj x J1 Q2 sJ1 hx hq => ?_) (fun M4 ts4 s4 d4 r4 => ?_)⟩
      · obtain ⟨ok, hl⟩ := okcs _ (List.mem_of_mem_take (List.getElem_mem hj))
        exact ⟨x, rfl, wv, rfl, .ref a, rfl, .ref a, wv, x, fs, wn, (cs.take 3)[j], rfl, ((hFM.same s13).same b4).same sJ1, ((hWM.same s13).same b4).same sJ1, hx, okw, dpw, ok, hl, fun r J2 sJ2 hr2 => hq _ _ sJ2 hr2⟩
      have s16 := Same.trans (Same.trans s2 s3) (Same.trans b4 s4)
      refine ⟨.ref D6, rfl, 3, rfl, D6, ts1, rfl, SqL.of (s16 _ _ d1), fun l9 nl9 => ?_⟩
      rw [e3']
      have b5 : Same M4 (upd M4 l9 (.lst (ts1.take 3))) := same_upd nl9
      have r9 : RpAll (upd M4 l9 (.lst (ts1.take 3))) (ts1.take 3) ((cs.take 3).map fun c => toldM fs wn c) := by
        rw [List.map_take]
        exact ((r1.same s16).same b5).take 3
      refine ⟨.ref D8, .ref l9, .list ((cs.take 3).map fun c => toldM fs wn c), rfl, .lst (b5 _ _ d4) (r4.same b5), .lst upd_same r9, fit_list 5 (by rw [List.length_take]; omega) (fun _ => fit_told 5 _), fun M5 s5' => ⟨true, rfl, ?_⟩⟩
      have sM := Same.trans s1 (Same.trans s16 (Same.trans b5 s5'))
      exact ⟨_, _, _, _, rfl, xM.trans (Same.ex sM), (TM.same sM).mono (by omega), hFM.same sM, sM _ _ eEM, rEM.same sM, sM _ _ eWM, rWM.same sM⟩
    · rintro σ G ⟨y3, y4, y5, y6, rfl, xG, TG, hF, eE, rE, eW, rW⟩
      have h0 : 0 < ss.length := hssl
      obtain ⟨x0, hx0, rx0⟩ := rE.getD (show (ss.map dW)[0]? = some (dW ss[0]) by rw [List.getElem?_map, List.getElem?_eq_getElem h0]; rfl)
      refine ⟨.ref ev, rfl, ev, eus, 0, x0, rfl, rfl, SqL.of eE, atI_nat (j := 0) hx0, by show 1 ≤ sizeLine; decide, fun p np => ?_⟩
      have sp : Same G (upd G p (.tup [.str (Str.ofString "always")])) := same_upd np
      refine ⟨.ref a, rfl, .ref a, .ref p, x0, fs, .always, ss[0], rfl, hF.same sp, .tup upd_same (.cons (.str _) .nil), rx0.same sp, trivial, by decide, by rw [hsm.2 _ (List.getElem_mem h0), hEl], by omega, fun J sJ => ?_⟩
      exact ⟨.bl true, .bl true, .bool true, rfl, .bl true, .bl true, trivial, fun J2 sJ2 => q _ (xG.trans (Same.ex (Same.trans sp (Same.trans sJ sJ2))))⟩
end
end Sg

namespace Sg
open PySem PySem.Spec PyProof.Rows L2
abbrev sLaw : Stmt := topS 22
abbrev nLaw : List Str := ["_law_script", "_law_cells", "_law_k"]
theorem scLaw : FnScope nLaw ["_law_script"] (defScope sLaw) := ⟨rfl, rfl, rfl, by decide +kernel, rfl, by decide +kernel, by decide +kernel⟩
section
variable {P : Program} {w : World} {K : PySem.W.Frag} {mg : Str → Option Value} {base : Heap}
def spLaw (K : PySem.W.Frag) : Sp := fun vs H Q _ => ∃ (a : Addr) (ns : List Int), vs = [.ref a] ∧ SqL K H a (ns.map V.int) ∧ ns.length ≤ 63 ∧ ∀ H', Q (.bl true) H'
theorem ok_law {f fO fT fR : Addr} {fd fdO fdT fdR : FuncData} (F : Fun K "law" "law" sLaw f fd)
    (FO : Fun K "_law_folded" "_law_folded" sFolded fO fdO) (bO : Binds K fdO ["_law_script", "_law_many"] []) (gO : mg "_law_folded" = some (.ref fO)) (GO : FnOk P w K mg base CX0 8 fO fdO ["_law_script", "_law_many"] (spFolded K))
    (FT : Fun K "_law_tape" "_law_tape" sTape fT fdT) (bT : Binds K fdT ["_law_script", "_law_k"] []) (gT : mg "_law_tape" = some (.ref fT)) (GT : FnOk P w K mg base CX0 8 fT fdT ["_law_script", "_law_k"] (spTape K))
    (FR : Fun K "_law_right" "_law_right" sRight fR fdR) (bR : Binds K fdR ["_law_tape_here"] []) (gR : mg "_law_right" = some (.ref fR)) (GR : FnOk P w K mg base CX0 8 fR fdR ["_law_tape_here"] spRight)
    (ml : mg "len" = none) (mr : mg "range" = none) (ma : mg "all" = none) (mm : mg "max" = none) : FnOk P w K mg base CX0 9 f fd ["_law_script"] (spLaw K) := by
  refine F.ok scLaw (fun vs H Q E h => ?_) (fun cdv A outer s H vs Q E hr h => ?_)
  · obtain ⟨a, ns, rfl, _⟩ := h
    rfl
  · obtain ⟨a, ns, rfl, hS, hn, q⟩ := h
    refine ⟨_, pss_cons (ps_set (i := 1) scLaw.nd rfl (.inr rfl) (pe_call GO hr (by rfl) gO FO.kp bO .nil pass0 (pa_cons (pv 0) (pa_cons pe_int pa_nil))))
      (pss_one (ps_ret (pe_callB (cr_all rfl) (by rfl) ma (by decide +kernel) (pa_cons (pe_lc (own := [("_law_k", 2)]) (g := gName 2) (tt := tYes) (te := tCall spRight [] E0 (tCons (tCall (spTape K) [] E0 (tCons (tVar 1) (tCons (tVar 2) tNil))) tNil)) rfl scLaw.nd
        (pi_range1 rfl mr (pa_cons (pe_callB (call_max2 rfl) (by rfl) mm (by decide +kernel) (pa_cons pe_int (pa_cons (pe_callB call_len_seq (by rfl) ml PySem.boot_len (pa_cons (pv 1) pa_nil)) pa_nil))) pa_nil)) (blkOk_by (N := nLaw) (sc := defScope sLaw) (by decide +kernel))
        (fun _ _ _ _ _ => pg_name (i := 2) scLaw.nd rfl (.inl rfl)) (fun _ _ _ _ _ => pts_nil) (fun _ _ _ _ _ => pe_call GR hr (by rfl) gR FR.kp bR .nil pass0 (pa_cons (pe_call GT hr (by rfl) gT FT.kp bT .nil pass0 (pa_cons (pv 1) (pa_cons (pv 2) pa_nil))) pa_nil))) pa_nil)))), ?_⟩
    refine ⟨.ref a, rfl, a, 3, ns, rfl, hS, by decide, by decide, hn, fun c H1 ms s1 nc ec lc => ?_⟩
    have hlm : (ms.map V.int).length ≤ 4 := by
      rw [List.length_map]
      omega
    refine ⟨.ref c, rfl, c, _, rfl, .inl (SqL.of ec), 1, _, rfl, _, rfl, ?_, ?_, fun D nD => ?_⟩
    · split <;> omega
    · split <;> omega
    generalize hk : (if ((ms.map V.int).length : Int) > 1 then ((ms.map V.int).length : Int) else 1) = kk
    have hkk : kk ≤ 4 := by
      rw [← hk]
      split <;> omega
    refine lc_it (walk_range (lo := 0) (n := kk.toNat)) (fun i H3 => Same H1 H3 ∧ H3 D = some (.lst ((List.replicate i true).map V.bl))) ⟨same_upd nD, upd_same⟩ (fun _ _ _ _ => trivial) ?_ ?_
    · rintro i x H4 H3 hi ⟨s3, d3⟩ ⟨rfl, rfl⟩
      have e0 : (0 : Int) + (i : Nat) = (i : Nat) := Int.zero_add _
      refine ⟨rfl, .ref c, rfl, .int (0 + (i : Nat)), rfl, c, i, ms, by rw [e0]; rfl, SqL.of (s3 _ _ ec), by omega, fun t H5 s5 nt T5 => ?_⟩
      refine ⟨t, rfl, T5, fun H6 x6 => ?_⟩
      have s36 : Same H3 H6 := fun b o e => x6 b o (fun z => by subst z; rw [nt] at e; cases e) (s5 b o e)
      have d6 := s36 _ _ d3
      refine ⟨_, d6, ?_, fun b o e => ?_, ?_⟩
      · rw [List.length_map, List.length_replicate]
        exact small1000 (by omega)
      · rw [upd_ne (fun z => by subst z; rw [nD] at e; cases e)]
        exact s36 _ _ (s3 _ _ e)
      · rw [upd_same, List.replicate_succ', List.map_append]
        rfl
    · rintro H3 ⟨s3, d3⟩
      refine ⟨D, _, rfl, SqL.of d3, ?_⟩
      rw [all_true]
      exact q _
end
theorem all_mk {l : PySem.W.OpenLaw} {w : World} {K : PySem.W.Frag} {h : Heap} {mg : Str → Option Value} {fa f1 f2 f3 f4 f5 f6 f7 f8 f9 f10 f11 f12 f13 f14 f15 f16 f17 f18 f19 f20 : Addr} (X : K.In h) (G : h.Ns mainGlobals mg) (hfa : mg "law" = some (.ref fa))
    {od1 an1 od2 an2 od3 an3 od4 an4 od5 an5 od6 an6 od7 an7 od8 an8 od9 an9 od10 an10 od11 an11 od12 an12 od13 an13 od14 an14 od15 an15 od16 an16 od17 an17 od18 an18 od19 an19 od20 an20 : Option Addr} {sl1 sl2 sl3 sl4 sl5 sl6 sl7 sl8 sl9 sl10 sl11 sl12 sl13 sl14 sl15 sl16 sl17 sl18 sl19 sl20 : Array (Option Value)} {oc1 kV1 dc1 pm1 cd1 ct1 oc2 kV2 dc2 pm2 cd2 ct2 oc3 kV3 dc3 pm3 cd3 ct3 oc4 kV4 dc4 pm4 cd4 ct4 oc5 kV5 dc5 pm5 cd5 ct5 oc6 kV6 dc6 pm6 cd6 ct6 oc7 kV7 dc7 pm7 cd7 ct7 oc8 kV8 dc8 pm8 cd8 ct8 oc9 kV9 dc9 pm9 cd9 ct9 oc10 kV10 dc10 pm10 cd10 ct10 oc11 kV11 dc11 pm11 cd11 ct11 oc12 kV12 dc12 pm12 cd12 ct12 oc13 kV13 dc13 pm13 cd13 ct13 oc14 kV14 dc14 pm14 cd14 ct14 oc15 kV15 dc15 pm15 cd15 ct15 oc16 kV16 dc16 pm16 cd16 ct16 oc17 kV17 dc17 pm17 cd17 ct17 oc18 kV18 dc18 pm18 cd18 ct18 oc19 kV19 dc19 pm19 cd19 ct19 oc20 kV20 dc20 pm20 cd20 ct20 : Value}
    (a1 : PySem.W.nsIn K mainGlobals "settings_in" = some (some (.ref f1))) (l1 : K.lookup f1 = some ⟨oc1, od1, .func (PySem.W.fnOf "settings_in" "settings_in" (defArgs sSettingsIn) (defBody sSettingsIn) (defScope sSettingsIn) .none kV1 dc1 pm1 an1 cd1 ct1), sl1⟩) (c1 : PySem.W.codeIn K cd1 "settings_in" = true) (k1 : PySem.W.keepIn K (.ref f1) = true)
    (a2 : PySem.W.nsIn K mainGlobals "place_of" = some (some (.ref f2))) (l2 : K.lookup f2 = some ⟨oc2, od2, .func (PySem.W.fnOf "place_of" "place_of" (defArgs sPlace) (defBody sPlace) (defScope sPlace) .none kV2 dc2 pm2 an2 cd2 ct2), sl2⟩) (c2 : PySem.W.codeIn K cd2 "place_of" = true) (k2 : PySem.W.keepIn K (.ref f2) = true)
    (a3 : PySem.W.nsIn K mainGlobals "holds" = some (some (.ref f3))) (l3 : K.lookup f3 = some ⟨oc3, od3, .func (PySem.W.fnOf "holds" "holds" (defArgs sHolds) (defBody sHolds) (defScope sHolds) .none kV3 dc3 pm3 an3 cd3 ct3), sl3⟩) (c3 : PySem.W.codeIn K cd3 "holds" = true) (k3 : PySem.W.keepIn K (.ref f3) = true)
    (a4 : PySem.W.nsIn K mainGlobals "told_in" = some (some (.ref f4))) (l4 : K.lookup f4 = some ⟨oc4, od4, .func (PySem.W.fnOf "told_in" "told_in" (defArgs sToldIn) (defBody sToldIn) (defScope sToldIn) .none kV4 dc4 pm4 an4 cd4 ct4), sl4⟩) (c4 : PySem.W.codeIn K cd4 "told_in" = true) (k4 : PySem.W.keepIn K (.ref f4) = true)
    (a5 : PySem.W.nsIn K mainGlobals "_law_tape" = some (some (.ref f5))) (l5 : K.lookup f5 = some ⟨oc5, od5, .func (PySem.W.fnOf "_law_tape" "_law_tape" (defArgs sTape) (defBody sTape) (defScope sTape) .none kV5 dc5 pm5 an5 cd5 ct5), sl5⟩) (c5 : PySem.W.codeIn K cd5 "_law_tape" = true) (k5 : PySem.W.keepIn K (.ref f5) = true)
    (a6 : PySem.W.nsIn K mainGlobals "_law_draw" = some (some (.ref f6))) (l6 : K.lookup f6 = some ⟨oc6, od6, .func (PySem.W.fnOf "_law_draw" "_law_draw" (defArgs sDraw) (defBody sDraw) (defScope sDraw) .none kV6 dc6 pm6 an6 cd6 ct6), sl6⟩) (c6 : PySem.W.codeIn K cd6 "_law_draw" = true) (k6 : PySem.W.keepIn K (.ref f6) = true)
    (a7 : PySem.W.nsIn K mainGlobals "_law_folded" = some (some (.ref f7))) (l7 : K.lookup f7 = some ⟨oc7, od7, .func (PySem.W.fnOf "_law_folded" "_law_folded" (defArgs sFolded) (defBody sFolded) (defScope sFolded) .none kV7 dc7 pm7 an7 cd7 ct7), sl7⟩) (c7 : PySem.W.codeIn K cd7 "_law_folded" = true) (k7 : PySem.W.keepIn K (.ref f7) = true)
    (a8 : PySem.W.nsIn K mainGlobals "_law_names" = some (some (.ref f8))) (l8 : K.lookup f8 = some ⟨oc8, od8, .func (PySem.W.fnOf "_law_names" "_law_names" (defArgs sNames) (defBody sNames) (defScope sNames) .none kV8 dc8 pm8 an8 cd8 ct8), sl8⟩) (c8 : PySem.W.codeIn K cd8 "_law_names" = true) (k8 : PySem.W.keepIn K (.ref f8) = true)
    (a9 : PySem.W.nsIn K mainGlobals "_law_part" = some (some (.ref f9))) (l9 : K.lookup f9 = some ⟨oc9, od9, .func (PySem.W.fnOf "_law_part" "_law_part" (defArgs sPart) (defBody sPart) (defScope sPart) .none kV9 dc9 pm9 an9 cd9 ct9), sl9⟩) (c9 : PySem.W.codeIn K cd9 "_law_part" = true) (k9 : PySem.W.keepIn K (.ref f9) = true)
    (a10 : PySem.W.nsIn K mainGlobals "_law_same" = some (some (.ref f10))) (l10 : K.lookup f10 = some ⟨oc10, od10, .func (PySem.W.fnOf "_law_same" "_law_same" (defArgs sSame) (defBody sSame) (defScope sSame) .none kV10 dc10 pm10 an10 cd10 ct10), sl10⟩) (c10 : PySem.W.codeIn K cd10 "_law_same" = true) (k10 : PySem.W.keepIn K (.ref f10) = true)
    (a11 : PySem.W.nsIn K mainGlobals "_law_facets" = some (some (.ref f11))) (l11 : K.lookup f11 = some ⟨oc11, od11, .func (PySem.W.fnOf "_law_facets" "_law_facets" (defArgs sFacets) (defBody sFacets) (defScope sFacets) .none kV11 dc11 pm11 an11 cd11 ct11), sl11⟩) (c11 : PySem.W.codeIn K cd11 "_law_facets" = true) (k11 : PySem.W.keepIn K (.ref f11) = true)
    (a12 : PySem.W.nsIn K mainGlobals "_law_settings" = some (some (.ref f12))) (l12 : K.lookup f12 = some ⟨oc12, od12, .func (PySem.W.fnOf "_law_settings" "_law_settings" (defArgs sLSettings) (defBody sLSettings) (defScope sLSettings) .none kV12 dc12 pm12 an12 cd12 ct12), sl12⟩) (c12 : PySem.W.codeIn K cd12 "_law_settings" = true) (k12 : PySem.W.keepIn K (.ref f12) = true)
    (a13 : PySem.W.nsIn K mainGlobals "_law_when" = some (some (.ref f13))) (l13 : K.lookup f13 = some ⟨oc13, od13, .func (PySem.W.fnOf "_law_when" "_law_when" (defArgs sWhen) (defBody sWhen) (defScope sWhen) .none kV13 dc13 pm13 an13 cd13 ct13), sl13⟩) (c13 : PySem.W.codeIn K cd13 "_law_when" = true) (k13 : PySem.W.keepIn K (.ref f13) = true)
    (a14 : PySem.W.nsIn K mainGlobals "_law_holds" = some (some (.ref f14))) (l14 : K.lookup f14 = some ⟨oc14, od14, .func (PySem.W.fnOf "_law_holds" "_law_holds" (defArgs sLHolds) (defBody sLHolds) (defScope sLHolds) .none kV14 dc14 pm14 an14 cd14 ct14), sl14⟩) (c14 : PySem.W.codeIn K cd14 "_law_holds" = true) (k14 : PySem.W.keepIn K (.ref f14) = true)
    (a15 : PySem.W.nsIn K mainGlobals "_law_case" = some (some (.ref f15))) (l15 : K.lookup f15 = some ⟨oc15, od15, .func (PySem.W.fnOf "_law_case" "_law_case" (defArgs sCase) (defBody sCase) (defScope sCase) .none kV15 dc15 pm15 an15 cd15 ct15), sl15⟩) (c15 : PySem.W.codeIn K cd15 "_law_case" = true) (k15 : PySem.W.keepIn K (.ref f15) = true)
    (a16 : PySem.W.nsIn K mainGlobals "_law_all" = some (some (.ref f16))) (l16 : K.lookup f16 = some ⟨oc16, od16, .func (PySem.W.fnOf "_law_all" "_law_all" (defArgs sAll) (defBody sAll) (defScope sAll) .none kV16 dc16 pm16 an16 cd16 ct16), sl16⟩) (c16 : PySem.W.codeIn K cd16 "_law_all" = true) (k16 : PySem.W.keepIn K (.ref f16) = true)
    (a17 : PySem.W.nsIn K mainGlobals "_law_told_in" = some (some (.ref f17))) (l17 : K.lookup f17 = some ⟨oc17, od17, .func (PySem.W.fnOf "_law_told_in" "_law_told_in" (defArgs sLToldIn) (defBody sLToldIn) (defScope sLToldIn) .none kV17 dc17 pm17 an17 cd17 ct17), sl17⟩) (c17 : PySem.W.codeIn K cd17 "_law_told_in" = true) (k17 : PySem.W.keepIn K (.ref f17) = true)
    (a18 : PySem.W.nsIn K mainGlobals "_law_whens" = some (some (.ref f18))) (l18 : K.lookup f18 = some ⟨oc18, od18, .func (PySem.W.fnOf "_law_whens" "_law_whens" (defArgs sWhens) (defBody sWhens) (defScope sWhens) .none kV18 dc18 pm18 an18 cd18 ct18), sl18⟩) (c18 : PySem.W.codeIn K cd18 "_law_whens" = true) (k18 : PySem.W.keepIn K (.ref f18) = true)
    (a19 : PySem.W.nsIn K mainGlobals "_law_right" = some (some (.ref f19))) (l19 : K.lookup f19 = some ⟨oc19, od19, .func (PySem.W.fnOf "_law_right" "_law_right" (defArgs sRight) (defBody sRight) (defScope sRight) .none kV19 dc19 pm19 an19 cd19 ct19), sl19⟩) (c19 : PySem.W.codeIn K cd19 "_law_right" = true) (k19 : PySem.W.keepIn K (.ref f19) = true)
    (a20 : PySem.W.nsIn K mainGlobals "law" = some (some (.ref f20))) (l20 : K.lookup f20 = some ⟨oc20, od20, .func (PySem.W.fnOf "law" "law" (defArgs sLaw) (defBody sLaw) (defScope sLaw) .none kV20 dc20 pm20 an20 cd20 ct20), sl20⟩) (c20 : PySem.W.codeIn K cd20 "law" = true) (k20 : PySem.W.keepIn K (.ref f20) = true)
    (z1 : PySem.W.nsIn K mainGlobals "len" = some none)
    (z2 : PySem.W.nsIn K mainGlobals "abs" = some none)
    (z3 : PySem.W.nsIn K mainGlobals "int" = some none)
    (z4 : PySem.W.nsIn K mainGlobals "list" = some none)
    (z5 : PySem.W.nsIn K mainGlobals "enumerate" = some none)
    (z6 : PySem.W.nsIn K mainGlobals "range" = some none)
    (z7 : PySem.W.nsIn K mainGlobals "zip" = some none)
    (z8 : PySem.W.nsIn K mainGlobals "isinstance" = some none)
    (z9 : PySem.W.nsIn K mainGlobals "tuple" = some none)
    (z10 : PySem.W.nsIn K mainGlobals "all" = some none)
    (z11 : PySem.W.nsIn K mainGlobals "any" = some none)
    (z12 : PySem.W.nsIn K mainGlobals "str" = some none)
    (z13 : PySem.W.nsIn K mainGlobals "bool" = some none)
    (z14 : PySem.W.nsIn K mainGlobals "sorted" = some none)
    (z15 : PySem.W.nsIn K mainGlobals "max" = some none)
    (z16 : PySem.W.nsIn K mainGlobals "min" = some none) :
    ∃ fd : FuncData, (∀ (s : Shared) (v : Value), BindsTo s fd ⟨[v], []⟩ [("_law_script", v)]) ∧ ∀ base : Heap, K.In base → base.Ns mainGlobals mg → FnOk l.prog w K mg base CX0 9 fa fd ["_law_script"] (spLaw K) := by
  have e := hfa.symm.trans (PySem.W.mg_of X G a20)
  cases e
  have F1 := fun_mk (st := sSettingsIn) l1 c1 k1
  have g1 := PySem.W.mg_of X G a1
  have b1 := F1.binds (ps := ["case"]) fun _ _ _ _ _ _ us hl => match us, hl with | [_], _ => rfl
  have F2 := fun_mk (st := sPlace) l2 c2 k2
  have g2 := PySem.W.mg_of X G a2
  have b2 := F2.binds (ps := ["facets", "facet"]) fun _ _ _ _ _ _ us hl => match us, hl with | [_, _], _ => rfl
  have F3 := fun_mk (st := sHolds) l3 c3 k3
  have g3 := PySem.W.mg_of X G a3
  have b3 := F3.binds (ps := ["facets", "when", "setting"]) fun _ _ _ _ _ _ us hl => match us, hl with | [_, _, _], _ => rfl
  have F4 := fun_mk (st := sToldIn) l4 c4 k4
  have g4 := PySem.W.mg_of X G a4
  have b4 := F4.binds (ps := ["facets", "when", "case"]) fun _ _ _ _ _ _ us hl => match us, hl with | [_, _, _], _ => rfl
  have F5 := fun_mk (st := sTape) l5 c5 k5
  have g5 := PySem.W.mg_of X G a5
  have b5 := F5.binds (ps := ["_law_script", "_law_k"]) fun _ _ _ _ _ _ us hl => match us, hl with | [_, _], _ => rfl
  have F6 := fun_mk (st := sDraw) l6 c6 k6
  have g6 := PySem.W.mg_of X G a6
  have b6 := F6.binds (ps := ["_law_tape_here", "_law_many"]) fun _ _ _ _ _ _ us hl => match us, hl with | [_, _], _ => rfl
  have F7 := fun_mk (st := sFolded) l7 c7 k7
  have g7 := PySem.W.mg_of X G a7
  have b7 := F7.binds (ps := ["_law_script", "_law_many"]) fun _ _ _ _ _ _ us hl => match us, hl with | [_, _], _ => rfl
  have F8 := fun_mk (st := sNames) l8 c8 k8
  have g8 := PySem.W.mg_of X G a8
  have b8 := F8.binds (ps := ["_law_tape_here", "_law_many"]) fun _ _ _ _ _ _ us hl => match us, hl with | [_, _], _ => rfl
  have F9 := fun_mk (st := sPart) l9 c9 k9
  have g9 := PySem.W.mg_of X G a9
  have b9 := F9.binds (ps := ["_law_tape_here", "_law_some", "_law_many"]) fun _ _ _ _ _ _ us hl => match us, hl with | [_, _, _], _ => rfl
  have F10 := fun_mk (st := sSame) l10 c10 k10
  have g10 := PySem.W.mg_of X G a10
  have b10 := F10.binds (ps := ["_law_found", "_law_due"]) fun _ _ _ _ _ _ us hl => match us, hl with | [_, _], _ => rfl
  have F11 := fun_mk (st := sFacets) l11 c11 k11
  have g11 := PySem.W.mg_of X G a11
  have b11 := F11.binds (ps := ["_law_tape_here", "_law_many", "_law_most"]) fun _ _ _ _ _ _ us hl => match us, hl with | [_, _, _], _ => rfl
  have F12 := fun_mk (st := sLSettings) l12 c12 k12
  have g12 := PySem.W.mg_of X G a12
  have b12 := F12.binds (ps := ["_law_some"]) fun _ _ _ _ _ _ us hl => match us, hl with | [_], _ => rfl
  have F13 := fun_mk (st := sWhen) l13 c13 k13
  have g13 := PySem.W.mg_of X G a13
  have b13 := F13.binds (ps := ["_law_tape_here", "_law_its_facets", "_law_deep"]) fun _ _ _ _ _ _ us hl => match us, hl with | [_, _, _], _ => rfl
  have F14 := fun_mk (st := sLHolds) l14 c14 k14
  have g14 := PySem.W.mg_of X G a14
  have b14 := F14.binds (ps := ["_law_its_facets", "_law_its_when", "_law_its_setting"]) fun _ _ _ _ _ _ us hl => match us, hl with | [_, _, _], _ => rfl
  have F15 := fun_mk (st := sCase) l15 c15 k15
  have g15 := PySem.W.mg_of X G a15
  have b15 := F15.binds (ps := ["_law_tape_here", "_law_a_facets"]) fun _ _ _ _ _ _ us hl => match us, hl with | [_, _], _ => rfl
  have F16 := fun_mk (st := sAll) l16 c16 k16
  have g16 := PySem.W.mg_of X G a16
  have b16 := F16.binds (ps := ["_law_a_facets"]) fun _ _ _ _ _ _ us hl => match us, hl with | [_], _ => rfl
  have F17 := fun_mk (st := sLToldIn) l17 c17 k17
  have g17 := PySem.W.mg_of X G a17
  have b17 := F17.binds (ps := ["_law_a_facets", "_law_a_when", "_law_a_case"]) fun _ _ _ _ _ _ us hl => match us, hl with | [_, _, _], _ => rfl
  have F18 := fun_mk (st := sWhens) l18 c18 k18
  have g18 := PySem.W.mg_of X G a18
  have b18 := F18.binds (ps := ["_law_tape_here", "_law_a_facets"]) fun _ _ _ _ _ _ us hl => match us, hl with | [_, _], _ => rfl
  have F19 := fun_mk (st := sRight) l19 c19 k19
  have g19 := PySem.W.mg_of X G a19
  have b19 := F19.binds (ps := ["_law_tape_here"]) fun _ _ _ _ _ _ us hl => match us, hl with | [_], _ => rfl
  have F20 := fun_mk (st := sLaw) l20 c20 k20
  have g20 := PySem.W.mg_of X G a20
  have mlen := PySem.W.mg_none_of X G z1
  have mabs := PySem.W.mg_none_of X G z2
  have mint := PySem.W.mg_none_of X G z3
  have mlist := PySem.W.mg_none_of X G z4
  have menumerate := PySem.W.mg_none_of X G z5
  have mrange := PySem.W.mg_none_of X G z6
  have mzip := PySem.W.mg_none_of X G z7
  have misinstance := PySem.W.mg_none_of X G z8
  have mtuple := PySem.W.mg_none_of X G z9
  have mall := PySem.W.mg_none_of X G z10
  have many := PySem.W.mg_none_of X G z11
  have mstr := PySem.W.mg_none_of X G z12
  have mbool := PySem.W.mg_none_of X G z13
  have msorted := PySem.W.mg_none_of X G z14
  have mmax := PySem.W.mg_none_of X G z15
  have mmin := PySem.W.mg_none_of X G z16
  have kH := kb_rev3 F3 (a := "facets") (b := "when") (c := "setting") fun _ _ _ _ _ _ _ _ _ => rfl
  have kT := kb_rev3 F4 (a := "facets") (b := "when") (c := "case") fun _ _ _ _ _ _ _ _ _ => rfl
  refine ⟨PySem.W.fnOf "law" "law" (defArgs sLaw) (defBody sLaw) (defScope sLaw) .none kV20 dc20 pm20 an20 cd20 ct20, fun s v => .of_eq rfl, fun base _ _ => ?_⟩
  have GHo : FnOk l.prog w K mg base CX0 5 f3 _ ["facets", "when", "setting"] (spHolds 4) := ok_holds F3 b3 g3 F2 b2 g2 4
  have GLh : FnOk l.prog w K mg base CX0 5 f14 _ ["_law_its_facets", "_law_its_when", "_law_its_setting"] (spHolds 4) := ok_lholds F14 b14 g14 menumerate 4
  have GWn : FnOk l.prog w K mg base CX0 6 f13 _ ["_law_tape_here", "_law_its_facets", "_law_deep"] (spWhen 3) := ok_when F13 b13 g13 F6 b6 g6 F9 b9 g9 mlen mrange mlist msorted mtuple mmin 3
  have GR : FnOk l.prog w K mg base CX0 8 f19 _ ["_law_tape_here"] spRight := ok_right F19 F6 b6 g6 (ok_draw (k := 6) F6) F11 b11 g11 (ok_facets (k := 4) F11 F6 b6 g6 F8 b8 g8 mlen mrange mint msorted mtuple) F16 b16 g16 (ok_all (k := 5) F16 F12 b12 g12) F18 b18 g18 (ok_whens F18 F6 b6 g6 F13 b13 g13 GWn mrange) F3 b3 kH g3 (GHo.mono (by decide)) F14 b14 g14 (GLh.mono (by decide)) F10 b10 g10 (ok_same F10 b10 g10 misinstance mlist mtuple mlen mall mzip mstr mbool mint 7) F4 b4 kT g4 ((ok_told_in F4 F3 b3 g3 GHo F1 b1 g1 mall many).mono (by decide)) F17 b17 g17 ((ok_ltold_in F17 F14 b14 g14 GLh F12 b12 g12 mlen).mono (by decide)) F15 b15 g15 (ok_case (k := 4) F15 F6 b6 g6 F9 b9 g9 mlen mrange mlist msorted mtuple) mlen mrange mtuple
  exact ok_law F20 F7 b7 g7 (ok_folded (k := 7) F7 mlist menumerate) F5 b5 g5 (ok_tape (k := 7) F5 mlen mabs mint) F19 b19 g19 GR mlen mrange mall mmax
end Sg

open PySem PySem.W PyProof.Rows
set_option maxRecDepth 100000 in
set_option maxHeartbeats 0 in
theorem PySem.Challenge.cw_sheafbooks_k05_where_whens_hold_holds : PySem.Challenge.rw_sheafbooks_k05_where_whens_hold.Holds := by
  w_on; o_law; k_head; (case hw => w_witness2)
  k_fill
  refine L2.walk_of (l := PySem.Challenge.rw_sheafbooks_k05_where_whens_hold) (n := 63) (k := 9) (x := "_law_script") (CX := fun _ => L2.CX0) (sp := fun w => Sg.spLaw _) rfl (by decide) rfl ⟨rfl, by decide, by decide⟩ (fun w h Y => PySem.W.kIn_of Y) ?F (fun _ _ a ns hl _ hS => ⟨a, ns, rfl, hS, hl, fun _ => rfl⟩) (fun _ _ _ _ _ h => h)
  case F =>
    intro w mg fa h KX G hmg
    refine' Sg.all_mk KX G hmg ?a1 ?l1 ?c1 ?k1 ?a2 ?l2 ?c2 ?k2 ?a3 ?l3 ?c3 ?k3 ?a4 ?l4 ?c4 ?k4 ?a5 ?l5 ?c5 ?k5 ?a6 ?l6 ?c6 ?k6 ?a7 ?l7 ?c7 ?k7 ?a8 ?l8 ?c8 ?k8 ?a9 ?l9 ?c9 ?k9 ?a10 ?l10 ?c10 ?k10 ?a11 ?l11 ?c11 ?k11 ?a12 ?l12 ?c12 ?k12 ?a13 ?l13 ?c13 ?k13 ?a14 ?l14 ?c14 ?k14 ?a15 ?l15 ?c15 ?k15 ?a16 ?l16 ?c16 ?k16 ?a17 ?l17 ?c17 ?k17 ?a18 ?l18 ?c18 ?k18 ?a19 ?l19 ?c19 ?k19 ?a20 ?l20 ?c20 ?k20 ?z1 ?z2 ?z3 ?z4 ?z5 ?z6 ?z7 ?z8 ?z9 ?z10 ?z11 ?z12 ?z13 ?z14 ?z15 ?z16
    (case a1 => k_is); (case l1 => k_is); (case c1 => k_is); (case k1 => k_is); (case a2 => k_is); (case l2 => k_is); (case c2 => k_is); (case k2 => k_is); (case a3 => k_is); (case l3 => k_is); (case c3 => k_is); (case k3 => k_is); (case a4 => k_is); (case l4 => k_is); (case c4 => k_is); (case k4 => k_is); (case a5 => k_is); (case l5 => k_is); (case c5 => k_is); (case k5 => k_is); (case a6 => k_is); (case l6 => k_is); (case c6 => k_is); (case k6 => k_is); (case a7 => k_is); (case l7 => k_is); (case c7 => k_is); (case k7 => k_is); (case a8 => k_is); (case l8 => k_is); (case c8 => k_is); (case k8 => k_is); (case a9 => k_is); (case l9 => k_is); (case c9 => k_is); (case k9 => k_is); (case a10 => k_is); (case l10 => k_is); (case c10 => k_is); (case k10 => k_is); (case a11 => k_is); (case l11 => k_is); (case c11 => k_is); (case k11 => k_is); (case a12 => k_is); (case l12 => k_is); (case c12 => k_is); (case k12 => k_is); (case a13 => k_is); (case l13 => k_is); (case c13 => k_is); (case k13 => k_is); (case a14 => k_is); (case l14 => k_is); (case c14 => k_is); (case k14 => k_is); (case a15 => k_is); (case l15 => k_is); (case c15 => k_is); (case k15 => k_is); (case a16 => k_is); (case l16 => k_is); (case c16 => k_is); (case k16 => k_is); (case a17 => k_is); (case l17 => k_is); (case c17 => k_is); (case k17 => k_is); (case a18 => k_is); (case l18 => k_is); (case c18 => k_is); (case k18 => k_is); (case a19 => k_is); (case l19 => k_is); (case c19 => k_is); (case k19 => k_is); (case a20 => k_is); (case l20 => k_is); (case c20 => k_is); (case k20 => k_is); (case z1 => k_is); (case z2 => k_is); (case z3 => k_is); (case z4 => k_is); (case z5 => k_is); (case z6 => k_is); (case z7 => k_is); (case z8 => k_is); (case z9 => k_is); (case z10 => k_is); (case z11 => k_is); (case z12 => k_is); (case z13 => k_is); (case z14 => k_is); (case z15 => k_is); (case z16 => k_is)

