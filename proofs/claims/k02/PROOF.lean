import PyProof.Rows.All
import Wide.All
import OpenK.AllK
import Wide.FinOn
import KE.GoesMore
import HandS.ForMost
import HandS.Walk
import HandS.Zip
import HandS.TupAny
import HandS.IsInst
import HandS.Deep
import HandS.Conv
import HandS.Style
import HandS.Flow
import HandS.Wide
import PyProof.EnumMake
import HandS.Codes
import PySem.Challenge.RW_sheafbooks_k02_settings_of_cases
set_option Elab.async false
set_option linter.all false
set_option maxRecDepth 100000
set_option maxHeartbeats 4000000
namespace Sg
open PySem PySem.Spec PyProof.Rows L2
/-! ### heaps -/
theorem same_upd {H : Hp} {p : Addr} {o : HO} (h : H p = none) : Same H (upd H p o) := fun b x e => by
  rw [upd_ne (ne_of_none e h)]
  exact e
/-- all but what stands at t is as it was -/
def Ex (t : Addr) (H H' : Hp) : Prop := ∀ a o, a ≠ t → H a = some o → H' a = some o
theorem Ex.refl (t : Addr) (H : Hp) : Ex t H H := fun _ _ _ h => h
theorem Ex.trans {t : Addr} {H H1 H2 : Hp} (a : Ex t H H1) (b : Ex t H1 H2) : Ex t H H2 := fun c o n h => b c o n (a c o n h)
theorem Same.ex {t : Addr} {H H' : Hp} (s : Same H H') : Ex t H H' := fun c o _ h => s c o h
theorem Ex.upd {t : Addr} {H H' : Hp} {o : HO} (s : Ex t H H') : Ex t H (upd H' t o) := fun c u n h => by
  rw [upd_ne n]
  exact s c u n h
theorem Ex.free {t : Addr} {H H' : Hp} (s : Ex t H H') {l : Addr} (hn : l ≠ t) (h : H' l = none) : H l = none := by
  cases q : H l with
  | none => rfl
  | some o =>
    rw [s l o hn q] at h
    cases h
/-- tuples stay -/
def KeepT (H H' : Hp) : Prop := ∀ a xs, H a = some (.tup xs) → H' a = some (.tup xs)
theorem Same.keepT {H H' : Hp} (s : Same H H') : KeepT H H' := fun a xs h => s a _ h
theorem KeepT.refl (H : Hp) : KeepT H H := fun _ _ h => h
theorem KeepT.trans {H H1 H2 : Hp} (a : KeepT H H1) (b : KeepT H1 H2) : KeepT H H2 := fun c o h => b c o (a c o h)
theorem Ex.keepT {t : Addr} {H H' : Hp} {ys : List V} (s : Ex t H H') (ht : H t = some (.lst ys)) : KeepT H H' := fun a xs h => by
  by_cases e : a = t
  · subst e
    rw [ht] at h
    cases h
  · exact s a _ e h
theorem keepT_lst {H : Hp} {l : Addr} {xs ys : List V} (h : H l = some (.lst xs)) : KeepT H (upd H l (.lst ys)) := fun a zs e => by
  rw [upd_ne (fun q => by subst q; rw [h] at e; cases e)]
  exact e
/-! ### data: tuples and lists of data -/
mutual
inductive Rp (H : Hp) : V → PyData → Prop
  | non : Rp H .non .none
  | bl (b : Bool) : Rp H (.bl b) (.bool b)
  | int (i : Int) : Rp H (.int i) (.int i)
  | str (x : Str) : Rp H (.str x) (.str x)
  | lst {a : Addr} {xs : List V} {ds : List PyData} : H a = some (.lst xs) → RpAll H xs ds → Rp H (.ref a) (.list ds)
  | tup {a : Addr} {xs : List V} {ds : List PyData} : H a = some (.tup xs) → RpAll H xs ds → Rp H (.ref a) (.tuple ds)
inductive RpAll (H : Hp) : List V → List PyData → Prop
  | nil : RpAll H [] []
  | cons {v : V} {vs : List V} {d : PyData} {ds : List PyData} : Rp H v d → RpAll H vs ds → RpAll H (v :: vs) (d :: ds)
end
mutual
theorem Rp.same {H H' : Hp} (s : Same H H') : ∀ {v : V} {d : PyData}, Rp H v d → Rp H' v d
  | _, _, .non => .non
  | _, _, .bl b => .bl b
  | _, _, .int i => .int i
  | _, _, .str x => .str x
  | _, _, .lst h hs => .lst (s _ _ h) (RpAll.same s hs)
  | _, _, .tup h hs => .tup (s _ _ h) (RpAll.same s hs)
theorem RpAll.same {H H' : Hp} (s : Same H H') : ∀ {vs : List V} {ds : List PyData}, RpAll H vs ds → RpAll H' vs ds
  | _, _, .nil => .nil
  | _, _, .cons h hs => .cons (Rp.same s h) (RpAll.same s hs)
end
mutual
theorem Rp.dp {K : PySem.W.Frag} {H : Hp} : ∀ {v : V} {d : PyData}, Rp H v d → Dp K H v d
  | _, _, .non => .non
  | _, _, .bl b => .bl b
  | _, _, .int i => .int i
  | _, _, .str x => .str x
  | _, _, .lst h hs => .lst (.inl (.inl h)) (RpAll.dp hs)
  | _, _, .tup h hs => .tup (.inl (.inl h)) (RpAll.dp hs)
theorem RpAll.dp {K : PySem.W.Frag} {H : Hp} : ∀ {vs : List V} {ds : List PyData}, RpAll H vs ds → DpAll K H vs ds
  | _, _, .nil => .nil
  | _, _, .cons h hs => .cons (Rp.dp h) (RpAll.dp hs)
end
/-! no list in it: it stays whatever lists become -/
mutual
def imm : PyData → Bool
  | .list _ => false
  | .tuple ds => immAll ds
  | _ => true
def immAll : List PyData → Bool
  | [] => true
  | d :: ds => imm d && immAll ds
end
mutual
theorem Rp.keep {H H' : Hp} (s : KeepT H H') : ∀ {v : V} {d : PyData}, Rp H v d → imm d = true → Rp H' v d
  | _, _, .non, _ => .non
  | _, _, .bl b, _ => .bl b
  | _, _, .int i, _ => .int i
  | _, _, .str x, _ => .str x
  | _, _, .lst h hs, e => by simp [imm] at e
  | _, _, .tup h hs, e => .tup (s _ _ h) (RpAll.keep s hs (by simpa [imm] using e))
theorem RpAll.keep {H H' : Hp} (s : KeepT H H') : ∀ {vs : List V} {ds : List PyData}, RpAll H vs ds → immAll ds = true → RpAll H' vs ds
  | _, _, .nil, _ => .nil
  | _, _, .cons h hs, e => by
    simp only [immAll, Bool.and_eq_true] at e
    exact .cons (Rp.keep s h e.1) (RpAll.keep s hs e.2)
end
theorem RpAll.length {H : Hp} : ∀ {vs : List V} {ds : List PyData}, RpAll H vs ds → vs.length = ds.length
  | _, _, .nil => rfl
  | _, _, .cons _ hs => by rw [List.length_cons, List.length_cons, RpAll.length hs]
theorem RpAll.get {H : Hp} : ∀ {vs : List V} {ds : List PyData} {i : Nat} {v : V}, RpAll H vs ds → vs[i]? = some v → ∃ d, ds[i]? = some d ∧ Rp H v d
  | _, _, _, _, .nil, e => by simp at e
  | _, _, 0, _, .cons h _, e => by simp at e; subst e; exact ⟨_, rfl, h⟩
  | _, _, i + 1, _, .cons _ hs, e => by
    rw [List.getElem?_cons_succ] at e
    rw [List.getElem?_cons_succ]
    exact RpAll.get hs e
theorem RpAll.getD {H : Hp} : ∀ {vs : List V} {ds : List PyData} {i : Nat} {d : PyData}, RpAll H vs ds → ds[i]? = some d → ∃ v, vs[i]? = some v ∧ Rp H v d
  | _, _, _, _, .nil, e => by simp at e
  | _, _, 0, _, .cons h _, e => by simp at e; subst e; exact ⟨_, rfl, h⟩
  | _, _, i + 1, _, .cons _ hs, e => by
    rw [List.getElem?_cons_succ] at e
    rw [List.getElem?_cons_succ]
    exact RpAll.getD hs e
theorem RpAll.append {H : Hp} : ∀ {vs ws : List V} {ds es : List PyData}, RpAll H vs ds → RpAll H ws es → RpAll H (vs ++ ws) (ds ++ es)
  | _, _, _, _, .nil, h => h
  | _, _, _, _, .cons h hs, h2 => .cons h (RpAll.append hs h2)
theorem RpAll.take {H : Hp} : ∀ {vs : List V} {ds : List PyData} (n : Nat), RpAll H vs ds → RpAll H (vs.take n) (ds.take n)
  | _, _, 0, _ => by rw [List.take_zero, List.take_zero]; exact .nil
  | _, _, n + 1, .nil => .nil
  | _, _, n + 1, .cons h hs => .cons h (RpAll.take n hs)
theorem RpAll.drop {H : Hp} : ∀ {vs : List V} {ds : List PyData} (n : Nat), RpAll H vs ds → RpAll H (vs.drop n) (ds.drop n)
  | _, _, 0, h => h
  | _, _, n + 1, .nil => .nil
  | _, _, n + 1, .cons h hs => RpAll.drop n hs
theorem RpAll.strs {H : Hp} : ∀ (ws : List Str), RpAll H (ws.map V.str) (ws.map PyData.str)
  | [] => .nil
  | w :: ws => .cons (.str w) (RpAll.strs ws)
theorem RpAll.strs_eq {H : Hp} : ∀ {vs : List V} {ws : List Str}, RpAll H vs (ws.map PyData.str) → vs = ws.map V.str
  | _, [], .nil => rfl
  | _, w :: ws, .cons h hs => by
    cases h
    rw [List.map_cons, RpAll.strs_eq hs]
theorem immAll_strs : ∀ ws : List Str, immAll (ws.map PyData.str) = true
  | [] => rfl
  | w :: ws => by
    rw [List.map_cons]
    show (imm (PyData.str w) && immAll (ws.map PyData.str)) = true
    rw [immAll_strs ws]
    rfl
theorem immAll_map {α : Type} {f : α → PyData} (hf : ∀ x, imm (f x) = true) : ∀ xs : List α, immAll (xs.map f) = true
  | [] => rfl
  | x :: xs => by
    rw [List.map_cons]
    show (imm (f x) && immAll (xs.map f)) = true
    rw [hf x, immAll_map hf xs]
    rfl
/-! the text's words -/
def dW (ws : List Str) : PyData := .tuple (ws.map .str)
def dC (c : List (List Str)) : PyData := .tuple (c.map dW)
def dF (fs : List (Str × List Str)) : PyData := .tuple (fs.map fun p => .tuple [.str p.1, dW p.2])
theorem imm_dW (ws : List Str) : imm (dW ws) = true := immAll_strs ws
theorem imm_dC (c : List (List Str)) : imm (dC c) = true := immAll_map imm_dW c
theorem imm_dP (p : Str × List Str) : imm (.tuple [.str p.1, dW p.2]) = true := by
  show (imm (.str p.1) && (imm (dW p.2) && immAll [])) = true
  rw [imm_dW]
  rfl
theorem imm_dF (fs : List (Str × List Str)) : imm (dF fs) = true := immAll_map imm_dP fs
theorem Rp.dW_inv {H : Hp} {v : V} {ws : List Str} (h : Rp H v (dW ws)) : ∃ a, v = .ref a ∧ H a = some (.tup (ws.map V.str)) := by
  unfold dW at h
  cases h with
  | tup ha hs => exact ⟨_, rfl, by rw [ha, RpAll.strs_eq hs]⟩
theorem Rp.dW_mk {H : Hp} {a : Addr} {ws : List Str} (h : H a = some (.tup (ws.map V.str))) : Rp H (.ref a) (dW ws) := .tup h (RpAll.strs ws)
/-! ### rules of our own -/
section
variable {X : Cx} {CX : CXT} {k : Nat} {f : Addr} {fd : FuncData} {ps ks : List Str} {sp : Sp} {E : XK} {x : Str} {p pos : Pos} {kws : List Keyword} {tk : TA} {g : List Value → List Value → List Value} {gV : List V → List V → List V}
/-- f(k = e, ..) without places -/
theorem pe_callK0 (F : FnOk X.prog X.w X.K X.mg X.base CX k f fd ps sp) (hr : Room k X.A) (hg : Gl X x) (hm : X.mg x = some (.ref f)) (hk : PySem.W.keepIn X.K (.ref f) = true) (hb : KBinds X.K fd ps ks g gV) (hx : Passes CX X E) (hkw : PK X kws tk)
    (hall : (backToKw pos (keywordEach kws X.env)).all (·.1.isSome) = true := by rfl) (hks : (backToKw pos (keywordEach kws X.env)).filterMap (·.1) = ks := by rfl) (hdb : (x == ("__debug__" : Str)) = false := by decide)
    (hpl : ((backTo pos (starEach [] X.env)).any (·.1) || (backToKw pos (keywordEach kws X.env)).any (·.1.isNone)) = false := by rfl) :
    PE X (.Call (.Name x p) [] kws pos) (tCallK sp gV E tNil tk) := by
  refine ⟨fun pins s σ H Q I h => ?_⟩
  refine wpAny_Call_Name_kw (ld_glob I hg hm ?_ hdb)
  refine PySem.W.callWith_KW0 (h₀ := X.base) I.ok.mod.kin hk hall ?_ hpl
  refine thn (hkw.run pos pins s σ H _ I h) fun ws s2 ⟨zs, H2, I2, rz, q2⟩ => ⟨I2.kIn, ?_⟩
  rw [hks]
  exact run_fnk (us := []) (vs := []) F hr hb hx I2 .nil rz q2
end
section
variable {X : Cx}
/-- x in t: t a tuple of data -/
def rInTD (K : PySem.W.Frag) : R2 := fun x y H Q => ∃ d ds, Dp K H x d ∧ Dp K H y (.tuple ds) ∧ SeqAt.shaped d = true ∧ SeqAt.shaped (.tuple ds) = true ∧ Q (.bl (ds.any fun z => PyData.eqv z d)) H
theorem op_inTD (hu : X.A.units + 65 < cLine) : OpR X (compareOp .In) (rInTD X.K) := by
  intro pins s σ H x y v u Q I rx ry h
  obtain ⟨d, ds, hd, he, sd, se, q⟩ := h
  obtain ⟨as, r1⟩ := Dp.reads I d x v hd rx
  obtain ⟨bs, r2⟩ := Dp.reads I (.tuple ds) y u he ry
  exact SeqAt.in_tuple_reads r2 r1 (SeqAt.canLay_of_shaped se) (SeqAt.canLay_of_shaped sd) (room_in_shaped sd hu) ⟨.bl _, H, I, rfl, q⟩
/-- a text, none or one time -/
def rRepS : R2 := fun x y H Q => ∃ (z : Str) (n : Int), x = .str z ∧ y = .int n ∧ (n = 0 ∨ n = 1) ∧ Q (.str (if n = 0 then Str.empty else z)) H
theorem op_repS : OpR X (binaryOp .Mult) rRepS := by
  intro pins s σ H x y v u Q I rx ry h
  obtain ⟨z, n, rfl, rfl, hn, q⟩ := h
  obtain ⟨t, rfl⟩ := rx
  obtain ⟨t2, rfl⟩ := ry
  rcases hn with rfl | rfl
  · rw [if_pos rfl] at q
    exact PySem.P.mul_str_none (by decide) (by decide) ⟨.str Str.empty, H, I.kept (fun _ _ h => h), ⟨_, rfl⟩, q⟩
  · rw [if_neg (by decide)] at q
    refine PySem.P.mul_str (by decide) (fun _ h => by simp at h) (fun _ h => by simp at h) ?_
    rw [if_neg (by decide), if_pos (by simp)]
    exact ⟨.str z, H, I, ⟨_, rfl⟩, q⟩
theorem rep_len (z : Str) (n : Int) : (if n = 0 then Str.empty else z).length ≤ z.length := by
  split
  · exact Nat.zero_le _
  · exact Nat.le_refl _
end
/-! ### texts of small letters -/
def Low (x : Str) : Prop := ∀ c ∈ x.cps.toList, 97 ≤ c ∧ c ≤ 122
def Wd (x : Str) : Prop := x.length ≤ 16 ∧ Low x
theorem Low.append {x y : Str} (hx : Low x) (hy : Low y) : Low (x ++ y) := fun c hc => by
  have e : (x ++ y).cps.toList = x.cps.toList ++ y.cps.toList := TL.tl_append x y
  rw [e] at hc
  rcases List.mem_append.mp hc with h | h
  · exact hx c h
  · exact hy c h
theorem Low.empty : Low Str.empty := fun c hc => by
  have e : Str.empty.cps.toList = [] := rfl
  rw [e] at hc
  cases hc
theorem Low.cut {z : Str} (h : Low z) (lo hi : Option Int) : Low (cutS z lo hi) := fun c hc => by
  have e : (cutS z lo hi).cps.toList = (z.cps.toList.drop (HT.sIx z.length 0 lo)).take (HT.sIx z.length z.length hi - HT.sIx z.length 0 lo) := rfl
  rw [e] at hc
  exact h c (List.mem_of_mem_drop (List.mem_of_mem_take hc))
theorem Low.rep {z : Str} (h : Low z) (n : Int) : Low (if n = 0 then Str.empty else z) := by
  split
  · exact Low.empty
  · exact h
theorem Low.join : ∀ cs : List Str, (∀ x ∈ cs, Low x) → Low (Str.join (Str.ofString "") cs)
  | [], _ => Low.empty
  | [x], h => h x (List.mem_singleton.mpr rfl)
  | x :: y :: r, h => by
    show Low (x ++ Str.ofString "" ++ Str.join (Str.ofString "") (y :: r))
    refine ((h x (List.mem_cons_self ..)).append ?_).append (Low.join (y :: r) fun z hz => h z (List.mem_cons_of_mem _ hz))
    intro c hc
    rw [show (Str.ofString "").cps.toList = [] by decide +kernel] at hc
    cases hc
theorem Low.ok {x : Str} (h : Low x) : PyData.strOk x = true := by
  unfold PyData.strOk
  rw [← Array.all_toList, List.all_eq_true]
  intro c hc
  exact decide_eq_true (by have := h c hc; omega)
/-! ### shapes: what may be compared -/
theorem canLayAll_map {α : Type} {f : α → PyData} {xs : List α} (hf : ∀ x ∈ xs, (f x).canLay0 = true) : PyData.canLayAll0 (xs.map f) = true := by
  induction xs with
  | nil => rfl
  | cons x r ih =>
    rw [List.map_cons]
    show ((f x).canLay0 && PyData.canLayAll0 (r.map f)) = true
    rw [hf x (List.mem_cons_self ..), ih fun y hy => hf y (List.mem_cons_of_mem _ hy)]
    rfl
theorem depthAll_map {α : Type} {f : α → PyData} {k : Nat} {xs : List α} (hf : ∀ x ∈ xs, (f x).depth ≤ k) : PyData.depthAll (xs.map f) ≤ k := by
  induction xs with
  | nil => exact Nat.zero_le _
  | cons x r ih =>
    rw [List.map_cons]
    show max (f x).depth (PyData.depthAll (r.map f)) ≤ k
    exact Nat.max_le.mpr ⟨hf x (List.mem_cons_self ..), ih fun y hy => hf y (List.mem_cons_of_mem _ hy)⟩
theorem shaped_of {d : PyData} (h : d.canLay0 = true) (hd : d.depth ≤ 64) : SeqAt.shaped d = true := by
  unfold SeqAt.shaped
  rw [h, decide_eq_true hd]
  rfl
theorem lay_dW {ws : List Str} (h : ∀ x ∈ ws, Wd x) : (dW ws).canLay0 = true := canLayAll_map fun x hx => (h x hx).2.ok
theorem dep_dW (ws : List Str) : (dW ws).depth ≤ 1 := Nat.succ_le_succ (depthAll_map (k := 0) fun _ _ => Nat.le_refl _)
theorem lay_dC {c : List (List Str)} (h : ∀ ws ∈ c, ∀ x ∈ ws, Wd x) : (dC c).canLay0 = true := canLayAll_map fun ws hw => lay_dW (h ws hw)
theorem dep_dC (c : List (List Str)) : (dC c).depth ≤ 2 := Nat.succ_le_succ (depthAll_map (k := 1) fun ws _ => dep_dW ws)
abbrev dP (p : Str × List Str) : PyData := .tuple [.str p.1, dW p.2]
theorem lay_dP {p : Str × List Str} (h1 : Wd p.1) (h : ∀ x ∈ p.2, Wd x) : (dP p).canLay0 = true := by
  show (PyData.strOk p.1 && ((dW p.2).canLay0 && true)) = true
  rw [h1.2.ok, lay_dW h]
  rfl
theorem dep_dP (p : Str × List Str) : (dP p).depth ≤ 2 := by
  show max 0 (max (dW p.2).depth 0) + 1 ≤ 2
  have := dep_dW p.2
  omega
theorem eqv_nil_l (ds : List PyData) : PyData.eqv (.list ds) (.list []) = ds.isEmpty := by
  cases ds <;> rfl
theorem eqv_nil_t (ds : List PyData) : PyData.eqv (.tuple ds) (.tuple []) = ds.isEmpty := by
  cases ds <;> rfl
end Sg

namespace Sg
open PySem PySem.Spec PyProof.Rows L2
def topS (i : Nat) : Stmt := PySem.Challenge.pw_sheafbooks_k02_settings_of_cases.main.body.getD i (.Pass ⟨0, 0, 0, 0⟩)
abbrev sTape : Stmt := topS 7
abbrev sDraw : Stmt := topS 8
theorem scTape : FnScope ["_law_script", "_law_k", "_law_cell"] ["_law_script", "_law_k"] (defScope sTape) := ⟨rfl, rfl, rfl, by decide +kernel, rfl, by decide +kernel, by decide +kernel⟩
theorem scDraw : FnScope ["_law_tape_here", "_law_many", "_law_found", "_law_once", "_law_twice", "_law_wide"] ["_law_tape_here", "_law_many"] (defScope sDraw) := ⟨rfl, rfl, rfl, by decide +kernel, rfl, by decide +kernel, by decide +kernel⟩
/-- a tape: three numbers, at most n draws done -/
def TapeAt (H : Hp) (t : Addr) (n : Nat) : Prop := ∃ a b c : Int, H t = some (.lst [.int a, .int b, .int c]) ∧ 0 ≤ b ∧ b < 2 ^ 62 ∧ 0 ≤ c ∧ c ≤ n
theorem TapeAt.mono {H : Hp} {t : Addr} {n m : Nat} (h : TapeAt H t n) (l : n ≤ m) : TapeAt H t m := by
  obtain ⟨a, b, c, e, h1, h2, h3, h4⟩ := h
  exact ⟨a, b, c, e, h1, h2, h3, by omega⟩
theorem TapeAt.keepT {H H' : Hp} {t : Addr} {n : Nat} (h : TapeAt H t n) (e : Ex t H H') : KeepT H H' := by
  obtain ⟨a, b, c, h, _⟩ := h
  exact e.keepT h
theorem TapeAt.ne_tup {H : Hp} {t p : Addr} {n : Nat} {xs : List V} (h : TapeAt H t n) (e : H p = some (.tup xs)) : p ≠ t := by
  obtain ⟨a, b, c, h, _⟩ := h
  intro q
  subst q
  rw [h] at e
  cases e
theorem TapeAt.ne_none {H : Hp} {t p : Addr} {n : Nat} (h : TapeAt H t n) (e : H p = none) : p ≠ t := by
  obtain ⟨a, b, c, h, _⟩ := h
  intro q
  subst q
  rw [h] at e
  cases e
theorem TapeAt.same {H H' : Hp} {t : Addr} {n : Nat} (h : TapeAt H t n) (e : Same H H') : TapeAt H' t n := by
  obtain ⟨a, b, c, h, r⟩ := h
  exact ⟨a, b, c, e _ _ h, r⟩
theorem TapeAt.upd {H : Hp} {t p : Addr} {n : Nat} {o : HO} (h : TapeAt H t n) (e : p ≠ t) : TapeAt (L2.upd H p o) t n := by
  obtain ⟨a, b, c, h, r⟩ := h
  exact ⟨a, b, c, by rw [upd_ne (Ne.symm e)]; exact h, r⟩
def spDraw : Sp := fun vs H Q _ => ∃ (t : Addr) (m : Int) (n : Nat), vs = [.ref t, .int m] ∧ 1 ≤ m ∧ m ≤ 1000 ∧ TapeAt H t n ∧ n ≤ 1000000 ∧
  ∀ (r : Int) (H' : Hp), Ex t H H' → TapeAt H' t (n + 1) → 0 ≤ r → r < m → Q (.int r) H'
theorem mod_lt {i j : Int} (h : 0 < j) : 0 ≤ i % j ∧ i % j < j := ⟨Int.emod_nonneg _ (by omega), Int.emod_lt_of_pos _ h⟩
section
variable {P : Program} {w : World} {K : PySem.W.Frag} {mg : Str → Option Value} {base : Heap}
theorem ok_draw {f : Addr} {fd : FuncData} {k : Nat} (F : Fun K "_law_draw" "_law_draw" sDraw f fd) : FnOk P w K mg base CX0 (k + 1) f fd ["_law_tape_here", "_law_many"] spDraw := by
  refine F.ok scDraw (fun vs H Q E h => ?_) (fun cdv A outer s H vs Q E hr h => ?_)
  · obtain ⟨t, m, n, rfl, _⟩ := h
    rfl
  · obtain ⟨t, m, n, rfl, hm1, hm2, hT, hn, q⟩ := h
    refine ⟨_, pss_cons (ps_if (pt_cmpR op_gt (pe_ix ix_list (pv 0) pe_int (fun _ _ => rfl)) pe_int (nomark _))
        (pss_cons (ps_set (i := 2) scDraw.nd rfl (.inl rfl) (pe_op op_mod (pe_ix ix_list (pv 0) pe_int (fun _ _ => rfl)) (pv 1)))
        (pss_cons (ps_asg (pe_op op_fdiv (pe_ix ix_list (pv 0) pe_int (fun _ _ => rfl)) (pv 1)) (pg_sub (pv 0) pe_int set_list))
        (pss_one (ps_ret (pv 2))))) pss_nil)
      (pss_cons (ps_asg (pe_op op_add (pe_ix ix_list (pv 0) pe_int (fun _ _ => rfl)) pe_int) (pg_sub (pv 0) pe_int set_list))
      (pss_cons (ps_set (i := 3) scDraw.nd rfl (.inl rfl) (pe_op op_mod (pe_op op_pow (pe_op op_add (pe_ix ix_list (pv 0) pe_int (fun _ _ => rfl)) (pe_op op_mul pe_int (pe_ix ix_list (pv 0) pe_int (fun _ _ => rfl)))) pe_int) pe_int))
      (pss_cons (ps_set (i := 4) scDraw.nd rfl (.inl rfl) (pe_op op_mod (pe_op op_mul (pe_op op_add (pv 3) (pe_ix ix_list (pv 0) pe_int (fun _ _ => rfl))) (pe_op op_add (pe_op op_add (pe_op op_mod (pv 3) pe_int) pe_int) (pe_ix ix_list (pv 0) pe_int (fun _ _ => rfl)))) pe_int))
      (pss_cons (ps_set (i := 5) scDraw.nd rfl (.inl rfl) (pe_op op_mod (pe_op op_add (pe_op op_add (pe_op op_fdivW (pe_ix ix_list (pv 0) pe_int (fun _ _ => rfl)) pe_int) (pe_op op_mul (pv 4) pe_int)) (pe_ix ix_list (pv 0) pe_int (fun _ _ => rfl))) pe_int))
      (pss_one (ps_ret (pe_op op_mod (pe_op op_fdiv (pe_op op_mod (pe_op op_add (pe_op op_add (pe_op op_mul (pv 4) pe_int) (pe_op op_mul (pv 5) pe_int)) (pv 3)) pe_int) pe_int) (pv 1)))))))), ?_⟩
    obtain ⟨a, b, c, e, hb0, hb1, hc0, hc1⟩ := hT
    refine ⟨.ref t, rfl, t, _, 0, .int a, rfl, rfl, SqL.of e, rfl, a, 0, rfl, rfl, _, rfl, ite2 (fun ha => ?_) (fun ha => ?_)⟩
    · refine ⟨.ref t, rfl, t, _, 0, .int a, rfl, rfl, SqL.of e, rfl, .int m, rfl, a, m, rfl, rfl, by omega, ?_⟩
      refine ⟨.ref t, rfl, t, _, 0, .int a, rfl, rfl, SqL.of e, rfl, .int m, rfl, a, m, rfl, rfl, ⟨by omega, by omega⟩, ?_⟩
      refine ⟨.ref t, rfl, t, _, 0, 0, rfl, rfl, e, rfl, ?_⟩
      refine ⟨_, rfl, ?_⟩
      exact q _ _ (Ex.upd (Ex.refl t H)) ⟨_, _, _, upd_same, hb0, hb1, hc0, by omega⟩ (mod_lt (by omega)).1 (mod_lt (by omega)).2
    · refine ⟨.ref t, rfl, t, _, 2, .int c, rfl, rfl, SqL.of e, rfl, c, 1, rfl, rfl, ?_⟩
      refine ⟨.ref t, rfl, t, _, 2, 2, rfl, rfl, e, rfl, ?_⟩
      have e1 : upd H t (.lst [.int a, .int b, .int (c + 1)]) t = some (.lst [.int a, .int b, .int (c + 1)]) := upd_same
      refine ⟨.ref t, rfl, t, _, 1, .int b, rfl, rfl, SqL.of e1, rfl, .ref t, rfl, t, _, 2, .int (c + 1), rfl, rfl, SqL.of e1, rfl, 39373, c + 1, rfl, rfl, .inl ⟨by decide, by decide⟩, b, _, rfl, rfl, _, 5, rfl, rfl, ⟨by decide, by decide, ?_⟩, _, 2147483647, rfl, rfl, (by decide : (0 : Int) < 2147483647), ?_⟩
      · show (b + 39373 * (c + 1)).natAbs < 2 ^ 64
        omega
      dsimp only
      generalize hx : (b + 39373 * (c + 1)) ^ (5 : Int).toNat % 2147483647 = x
      have hx1 := mod_lt (i := (b + 39373 * (c + 1)) ^ (5 : Int).toNat) (j := 2147483647) (by decide)
      rw [hx] at hx1
      refine ⟨.int x, rfl, .ref t, rfl, t, _, 2, .int (c + 1), rfl, rfl, SqL.of e1, rfl, x, c + 1, rfl, rfl, .int x, rfl, x, 40009, rfl, rfl, (by decide : (0 : Int) < 40009), _, 7, rfl, rfl, .ref t, rfl, t, _, 2, .int (c + 1), rfl, rfl, SqL.of e1, rfl, _, c + 1, rfl, rfl, _, _, rfl, rfl, .inl ⟨by omega, by omega⟩, _, 2147483629, rfl, rfl, (by decide : (0 : Int) < 2147483629), ?_⟩
      dsimp only
      generalize hy : (x + (c + 1)) * (x % 40009 + 7 + (c + 1)) % 2147483629 = y
      have hy1 := mod_lt (i := (x + (c + 1)) * (x % 40009 + 7 + (c + 1))) (j := 2147483629) (by decide)
      rw [hy] at hy1
      refine ⟨.ref t, rfl, t, _, 1, .int b, rfl, rfl, SqL.of e1, rfl, b, 2147483647, rfl, rfl, wide_div (b := 64) (by decide) (by decide) (by decide) (by decide), .int y, rfl, y, 40009, rfl, rfl, .inl ⟨by omega, by omega⟩, _, _, rfl, rfl, .ref t, rfl, t, _, 2, .int (c + 1), rfl, rfl, SqL.of e1, rfl, _, c + 1, rfl, rfl, _, 2305843009213693951, rfl, rfl, (by decide : (0 : Int) < 2305843009213693951), ?_⟩
      dsimp only
      generalize hz : (b / 2147483647 + y * 40009 + (c + 1)) % 2305843009213693951 = z
      have hz1 := mod_lt (i := (b / 2147483647 + y * 40009 + (c + 1))) (j := 2305843009213693951) (by decide)
      rw [hz] at hz1
      refine ⟨.int y, rfl, y, 48271, rfl, rfl, .inl ⟨by omega, by omega⟩, .int z, rfl, z, 39373, rfl, rfl, .inl ⟨by omega, by omega⟩, _, _, rfl, rfl, .int x, rfl, _, x, rfl, rfl, _, 2305843009213693921, rfl, rfl, (by decide : (0 : Int) < 2305843009213693921), _, 64, rfl, rfl, ⟨by decide, by decide⟩, .int m, rfl, _, m, rfl, rfl, by omega, ?_⟩
      exact q _ _ (Ex.upd (Ex.refl t H)) ⟨_, _, _, upd_same, hb0, hb1, by omega, by omega⟩ (mod_lt (by omega)).1 (mod_lt (by omega)).2
end
end Sg

namespace Sg
open PySem PySem.Spec PyProof.Rows L2
abbrev sFolded : Stmt := topS 9
theorem scFolded : FnScope ["_law_script", "_law_many", "_law_cells", "_law_k", "_law_cell"] ["_law_script", "_law_many"] (defScope sFolded) := ⟨rfl, rfl, rfl, by decide +kernel, rfl, by decide +kernel, by decide +kernel⟩
section
variable {P : Program} {w : World} {K : PySem.W.Frag} {mg : Str → Option Value} {base : Heap}
theorem b01 (b : Bool) : -(2 ^ 64) < (if b = true then (1 : Int) else 0) ∧ (if b = true then (1 : Int) else 0) < 2 ^ 64 := by
  cases b <;> decide
def spTape (K : PySem.W.Frag) : Sp := fun vs H Q _ => ∃ (a : Addr) (k : Nat) (ns : List Int), vs = [.ref a, .int (k : Int)] ∧ SqL K H a (ns.map V.int) ∧ k ≤ 1000 ∧
  ∀ (t : Addr) (H' : Hp), Same H H' → H t = none → TapeAt H' t 0 → Q (.ref t) H'
theorem ok_tape {f : Addr} {fd : FuncData} {k : Nat} (F : Fun K "_law_tape" "_law_tape" sTape f fd) (ml : mg "len" = none) (ma : mg "abs" = none) (mi : mg "int" = none) : FnOk P w K mg base CX0 (k + 1) f fd ["_law_script", "_law_k"] (spTape K) := by
  refine F.ok scTape (fun vs H Q E h => ?_) (fun cdv A outer s H vs Q E hr h => ?_)
  · obtain ⟨a, k, ns, rfl, _⟩ := h
    rfl
  · obtain ⟨a, j, ns, rfl, hS, hj1, q⟩ := h
    refine ⟨_, pss_cons (ps_set (i := 2) scTape.nd rfl (.inl rfl) (pe_ifExp (pt_cmpR op_lt (pv 1) (pe_callB call_len_seq (by rfl) ml PySem.boot_len (pa_cons (pv 0) pa_nil)) (nomark _)) (pe_ix ix_list (pv 0) (pv 1) (fun _ _ => rfl)) pe_int))
      (pss_one (ps_ret (pe_lst (pa_cons (pe_op op_mul (pe_callB call_abs (by rfl) ma (by decide +kernel) (pa_cons (pv 2) pa_nil)) (pe_callTy call_int1 (by rfl) mi (by decide +kernel) (pa_cons (pe_cmpR op_ge (pe_callB call_abs (by rfl) ma (by decide +kernel) (pa_cons (pv 2) pa_nil)) (pe_op op_pow pe_int pe_int) (nomark _)) pa_nil)))
        (pa_cons (pe_op op_add (pe_op op_add (pe_op op_mod (pv 2) pe_int) (pe_op op_mul pe_int (pv 1))) pe_int) (pa_cons pe_int pa_nil)))))), ?_⟩
    refine ⟨.int j, rfl, .ref a, rfl, a, _, rfl, .inl hS, j, _, rfl, rfl, _, rfl, ite2 (fun hc => ?_) (fun hc => ?_)⟩
    · have hc' : (j : Int) < ((ns.map V.int).length : Int) := of_decide_eq_true hc
      rw [List.length_map] at hc'
      have hj : j < ns.length := by omega
      have g : atI (ns.map V.int) (j : Int) = some (.int ns[j]) := atI_nat (by rw [List.getElem?_map, List.getElem?_eq_getElem hj]; rfl)
      refine ⟨.ref a, rfl, .int j, rfl, a, _, j, .int ns[j], rfl, rfl, hS, g, ?_⟩
      refine ⟨_, rfl, _, rfl, _, rfl, _, rfl, 10, 18, rfl, rfl, ⟨by decide, by decide, by decide⟩, _, _, rfl, rfl, .inr ⟨_, rfl, _, _, rfl, rfl, .inr ⟨?_, ?_⟩, ?_⟩⟩
      · exact (b01 _).1
      · exact (b01 _).2
      refine ⟨_, rfl, _, 2305843009213693951, rfl, rfl, (by decide : (0 : Int) < 2305843009213693951), .int j, rfl, 39373, j, rfl, rfl, .inl ⟨by decide, by decide⟩, _, _, rfl, rfl, _, _, rfl, rfl, (by show 3 ≤ sizeLine; decide), fun t nt => ?_⟩
      have hm := mod_lt (i := ns[j]) (j := 2305843009213693951) (by decide)
      exact q _ _ (same_upd nt) nt ⟨_, _, _, upd_same, by omega, by omega, by omega, by omega⟩
    · refine ⟨_, rfl, _, rfl, _, rfl, _, rfl, 10, 18, rfl, rfl, ⟨by decide, by decide, by decide⟩, _, _, rfl, rfl, .inr ⟨_, rfl, _, _, rfl, rfl, .inr ⟨?_, ?_⟩, ?_⟩⟩
      · exact (b01 _).1
      · exact (b01 _).2
      refine ⟨_, rfl, _, 2305843009213693951, rfl, rfl, (by decide : (0 : Int) < 2305843009213693951), .int j, rfl, 39373, j, rfl, rfl, .inl ⟨by decide, by decide⟩, _, _, rfl, rfl, _, _, rfl, rfl, (by show 3 ≤ sizeLine; decide), fun t nt => ?_⟩
      exact q _ _ (same_upd nt) nt ⟨_, _, _, upd_same, by omega, by omega, by omega, by omega⟩
theorem cut_len {α : Type} (xs : List α) (n : Nat) : (xs.take n).length = min n xs.length := List.length_take
def spFolded (K : PySem.W.Frag) : Sp := fun vs H Q _ => ∃ (a : Addr) (m : Nat) (ns : List Int), vs = [.ref a, .int (m : Int)] ∧ SqL K H a (ns.map V.int) ∧ 1 ≤ m ∧ m ≤ 60 ∧ ns.length ≤ 63 ∧
  ∀ (c : Addr) (H' : Hp) (ms : List Int), Same H H' → H c = none → H' c = some (.lst (ms.map V.int)) → ms.length = min m ns.length → Q (.ref c) H'
theorem cut_ints (ns : List Int) (lo hi : Option Int) : cutV (ns.map V.int) lo hi = ((ns.drop (HT.sIx ns.length 0 lo)).take (HT.sIx ns.length ns.length hi - HT.sIx ns.length 0 lo)).map V.int := by
  unfold cutV
  rw [List.length_map, ← List.map_drop, ← List.map_take]
theorem ok_folded {f : Addr} {fd : FuncData} {k : Nat} (F : Fun K "_law_folded" "_law_folded" sFolded f fd) (ml : mg "list" = none) (me : mg "enumerate" = none) : FnOk P w K mg base CX0 (k + 1) f fd ["_law_script", "_law_many"] (spFolded K) := by
  refine F.ok scFolded (fun vs H Q E h => ?_) (fun cdv A outer s H vs Q E hr h => ?_)
  · obtain ⟨a, m, ns, rfl, _⟩ := h
    rfl
  · obtain ⟨a, m, ns, rfl, hS, hm0, hm1, hn, q⟩ := h
    refine ⟨_, pss_cons (ps_set (i := 2) scFolded.nd rfl (.inl rfl) (pe_callTy call_list_of (by rfl) ml (by decide +kernel) (pa_cons (pe_slice sl_list (pv 0) po_none (po_some (pv 1))) pa_nil)))
      (pss_cons (ps_for PassesOwn.never rfl (pi_enum (by rfl) me (pa_cons (pe_slice sl_list (pv 0) (po_some (pv 1)) (po_some pe_int)) pa_nil))
          (pg_tup rfl (pgs_cons (pg_name (i := 3) scFolded.nd rfl (.inl rfl)) (pgs_cons (pg_name (i := 4) scFolded.nd rfl (.inl rfl)) pgs_nil)))
        (pss_one (ps_asg (pe_op op_add (pe_ix ix_list (pv 2) (pe_op op_mod (pv 3) (pv 1)) (fun _ _ => rfl)) (pe_op op_mul (pv 4) (pe_op op_add (pv 3) pe_int))) (pg_sub (pv 2) (pe_op op_mod (pv 3) (pv 1)) set_list))))
      (pss_one (ps_ret (pv 2)))), ?_⟩
    refine ⟨.ref a, rfl, .int (m : Int), rfl, (m : Int), rfl, a, _, rfl, hS, fun s1 n1 => ⟨s1, _, rfl, .inl (SqL.of upd_same), fun c nc => ?_⟩⟩
    have sm1 : Same H (upd H s1 (.lst (cutV (ns.map V.int) none (some (m : Int))))) := same_upd n1
    have sm2 := Same.trans sm1 (same_upd (o := .lst (cutV (ns.map V.int) none (some (m : Int)))) nc)
    refine ⟨.ref a, rfl, .int (m : Int), rfl, (m : Int), rfl, 63, rfl, a, _, rfl, Same.seq sm2 hS, fun d nd => ⟨d, _, rfl, SqL.of upd_same, ?_⟩⟩
    have sm3 := Same.trans sm2 (same_upd (o := .lst (cutV (ns.map V.int) (some (m : Int)) (some 63))) nd)
    have hcH : H c = none := sm1.free nc
    have ndc : c ≠ d := fun e => by
      subst e
      rw [upd_same] at nd
      cases nd
    have e1 : HT.sIx ns.length 0 none = 0 := rfl
    have e2 : HT.sIx ns.length ns.length (some (m : Int)) = min m ns.length := HT.sIx_nat _ _ _
    have e3 : HT.sIx ns.length 0 (some (m : Int)) = min m ns.length := HT.sIx_nat _ _ _
    have len1 : ((ns.drop 0).take (min m ns.length - 0)).length = min m ns.length := by
      rw [List.length_take, List.drop_zero]
      omega
    generalize hzs : (ns.drop (HT.sIx ns.length 0 (some (m : Int)))).take (HT.sIx ns.length ns.length (some 63) - HT.sIx ns.length 0 (some (m : Int))) = zs
    have hzl : zs.length ≤ ns.length - min m ns.length := by
      rw [← hzs, List.length_take, List.length_drop, e3]
      omega
    have hcut : cutV (ns.map V.int) (some (m : Int)) (some 63) = zs.map V.int := by rw [cut_ints, hzs]
    rw [hcut] at sm3 ⊢
    refine for_it (walk_enum (xs := zs.map V.int)) (fun i σ H3 => ∃ (y3 y4 : Option V) (ms : List Int), σ = [some (.ref a), some (.int (m : Int)), some (.ref c), y3, y4] ∧ Same H H3 ∧ H3 c = some (.lst (ms.map V.int)) ∧ ms.length = min m ns.length ∧ H3 d = some (.lst (zs.map V.int))) ?_ ?_ ?_ ?_
    · refine ⟨none, none, _, rfl, sm3, ?_, len1, upd_same⟩
      rw [upd_ne ndc, upd_same, cut_ints, e1, e2]
    · rintro i σ H3 _ ⟨y3, y4, ms, rfl, sm, hc, hl, hd⟩
      exact SqL.of hd
    · rintro i x σ H3 H4 hi ⟨y3, y4, ms, rfl, sm, hc, hl, hd⟩ ⟨T, x1, x2, rfl, nT, rfl, f1, f2⟩
      rw [List.length_map] at hi
      cases f1
      have f2 : (zs.map V.int)[i]? = some x2 := f2
      rw [List.getElem?_map, List.getElem?_eq_getElem hi] at f2
      cases f2
      have hlm : ms.length = m := by omega
      have nTc : c ≠ T := ne_of_none hc nT
      have nTd : d ≠ T := ne_of_none hd nT
      have hc' : upd H3 T (.tup [.int (i : Nat), .int zs[i]]) c = some (.lst (ms.map V.int)) := by rw [upd_ne nTc]; exact hc
      have him : i % m < ms.length := by
        rw [hlm]
        exact Nat.mod_lt _ (by omega)
      have ei : ((i : Nat) : Int) % (m : Int) = ((i % m : Nat) : Int) := by rw [Int.natCast_emod]
      have g : atI (ms.map V.int) (((i : Nat) : Int) % (m : Int)) = some (.int ms[i % m]) := by
        rw [ei]
        exact atI_nat (by rw [List.getElem?_map, List.getElem?_eq_getElem him]; rfl)
      have g2 : ixN (ms.map V.int).length (((i : Nat) : Int) % (m : Int)) = some (i % m) := by
        rw [ei, List.length_map]
        unfold ixN
        rw [if_pos (by omega), if_pos (by omega), Int.toNat_natCast]
      refine ⟨T, _, rfl, SqT.of upd_same, rfl, _, _, rfl, _, _, rfl, rfl, ?_⟩
      refine ⟨.ref c, rfl, .int (i : Nat), rfl, .int (m : Int), rfl, _, _, rfl, rfl, by omega, c, _, _, .int ms[i % m], rfl, rfl, SqL.of hc', g, .int zs[i], rfl, .int (i : Nat), rfl, _, 2, rfl, rfl, _, _, rfl, rfl, .inr ⟨by omega, by omega⟩, _, _, rfl, rfl, ?_⟩
      refine ⟨.ref c, rfl, .int (i : Nat), rfl, .int (m : Int), rfl, _, _, rfl, rfl, by omega, c, _, _, i % m, rfl, rfl, hc', g2, ?_⟩
      refine ⟨some (.int (i : Nat)), some (.int zs[i]), ms.set (i % m) (ms[i % m] + zs[i] * ((i : Int) + 2)), rfl, fun b z e => ?_, ?_, ?_, ?_⟩
      · rw [upd_ne (fun q => by subst q; rw [hcH] at e; cases e), upd_ne (ne_of_none (sm _ _ e) nT)]
        exact sm _ _ e
      · rw [upd_same, List.map_set]
      · rw [List.length_set]
        exact hl
      · rw [upd_ne ndc.symm, upd_ne nTd]
        exact hd
    · rintro σ H3 ⟨y3, y4, ms, rfl, sm, hc, hl, hd⟩
      exact ⟨.ref c, rfl, q _ _ ms sm hcH hc hl⟩
end
end Sg

namespace Sg
open PySem PySem.Spec PyProof.Rows L2
abbrev sNames : Stmt := topS 10
abbrev nNames : List Str := ["_law_tape_here", "_law_many", "_law_letters", "_law_shift", "_law_k", "_law_stem", "_law_at", "_law_step", "_law_found", "_law_head", "_law_tail", "_law_way", "_law_sign"]
theorem scNames : FnScope nNames ["_law_tape_here", "_law_many"] (defScope sNames) := ⟨rfl, rfl, rfl, by decide +kernel, rfl, by decide +kernel, by decide +kernel⟩
abbrev abc : Str := Str.ofString "abcdefghijklmnopqrstuvwxyz"
theorem abc_len : abc.cps.toList.length = 26 := by decide +kernel
theorem abc_low : ∀ c ∈ abc.cps.toList, 97 ≤ c ∧ c ≤ 122 := by decide +kernel
theorem letter {i : Int} (h0 : 0 ≤ i) (h1 : i < 26) : ∃ c, atI abc.cps.toList i = some c ∧ Low ⟨#[c]⟩ := by
  obtain ⟨j, rfl⟩ : ∃ j : Nat, i = j := ⟨i.toNat, by omega⟩
  have hj : j < abc.cps.toList.length := by rw [abc_len]; omega
  refine ⟨abc.cps.toList[j], atI_nat (List.getElem?_eq_getElem hj), fun c hc => ?_⟩
  have e : (⟨#[abc.cps.toList[j]]⟩ : Str).cps.toList = [abc.cps.toList[j]] := rfl
  rw [e] at hc
  rw [List.mem_singleton.mp hc]
  exact abc_low _ (List.getElem_mem hj)
theorem three {α : Type} {r : Int} (h0 : 0 ≤ r) (h1 : r < 3) (x y z : α) : ∃ v, atI [x, y, z] r = some v ∧ (v = x ∨ v = y ∨ v = z) := by
  have : r = 0 ∨ r = 1 ∨ r = 2 := by omega
  rcases this with rfl | rfl | rfl
  · exact ⟨x, rfl, .inl rfl⟩
  · exact ⟨y, rfl, .inr (.inl rfl)⟩
  · exact ⟨z, rfl, .inr (.inr rfl)⟩
theorem sz (n : Nat) (h : n ≤ 1000) : n ≤ sizeLine := Nat.le_of_lt (small1000 h)
section
variable {P : Program} {w : World} {K : PySem.W.Frag} {mg : Str → Option Value} {base : Heap}
def spNames : Sp := fun vs H Q _ => ∃ (t : Addr) (m n : Nat), vs = [.ref t, .int (m : Int)] ∧ m ≤ 60 ∧ TapeAt H t n ∧ n ≤ 900000 ∧
  ∀ (p : Addr) (H' : Hp) (ws : List Str), Ex t H H' → TapeAt H' t (n + 12) → H p = none → H' p = some (.lst (ws.map V.str)) → ws.length = m → (∀ x ∈ ws, Wd x) → Q (.ref p) H'
theorem ok_names {f fD : Addr} {fd fdD : FuncData} {k : Nat} (F : Fun K "_law_names" "_law_names" sNames f fd) (FD : Fun K "_law_draw" "_law_draw" sDraw fD fdD) (bD : Binds K fdD ["_law_tape_here", "_law_many"] []) (gD : mg "_law_draw" = some (.ref fD))
    (ml : mg "len" = none) (mr : mg "range" = none) (mi : mg "int" = none) : FnOk P w K mg base CX0 (k + 2) f fd ["_law_tape_here", "_law_many"] spNames := by
  have GD : FnOk P w K mg base CX0 (k + 1) fD fdD ["_law_tape_here", "_law_many"] spDraw := ok_draw FD
  refine F.ok scNames (fun vs H Q E h => ?_) (fun cdv A outer s H vs Q E hr h => ?_)
  · obtain ⟨t, m, n, rfl, _⟩ := h
    rfl
  · obtain ⟨t, m, n, rfl, hm, hT, hn, q⟩ := h
    refine ⟨_, pss_cons (ps_asg (pe_tup (pa_cons pe_str (pa_cons (pe_call GD hr (by rfl) gD FD.kp bD .nil pass0 (pa_cons (pv 0) (pa_cons pe_int pa_nil))) pa_nil))) (pg_tup rfl (pgs_cons (pg_name (i := 2) scNames.nd rfl (.inr rfl)) (pgs_cons (pg_name (i := 3) scNames.nd rfl (.inl rfl)) pgs_nil))))
      (pss_cons (ps_set (i := 5) scNames.nd rfl (.inl rfl) (pe_join pe_str (pe_lc (own := [("_law_k", 4)]) (g := gName 4) (tt := tYes) rfl scNames.nd (pi_range1 rfl mr (pa_cons (pe_call GD hr (by rfl) gD FD.kp bD .nil pass0 (pa_cons (pv 0) (pa_cons pe_int pa_nil))) pa_nil)) (blkOk_by (N := nNames) (sc := defScope sNames) (by decide +kernel))
          (fun _ _ _ _ _ => pg_name (i := 4) scNames.nd rfl (.inl rfl)) (fun _ _ _ _ _ => pts_nil) (fun _ _ _ _ _ => pe_ix ix_str (pv 2) (pe_call GD hr (by rfl) gD FD.kp bD .nil pass0 (pa_cons (pv 0) (pa_cons pe_int pa_nil))) (fun _ _ => rfl)))))
      (pss_cons (ps_par3 (i := 6) (j := 7) (l := 8) rfl scNames.nd rfl rfl rfl (by decide) (by decide) (by decide) rfl rfl rfl (pa_cons (pe_call GD hr (by rfl) gD FD.kp bD .nil pass0 (pa_cons (pv 0) (pa_cons (pe_op op_add (pe_callB call_len_str (by rfl) ml PySem.boot_len (pa_cons (pv 5) pa_nil)) pe_int) pa_nil)))
          (pa_cons (pe_ix ix_list (pe_lst (pa_cons pe_int (pa_cons pe_int (pa_cons pe_int pa_nil)))) (pe_call GD hr (by rfl) gD FD.kp bD .nil pass0 (pa_cons (pv 0) (pa_cons pe_int pa_nil))) (fun _ _ => rfl)) (pa_cons (pe_lst pa_nil) pa_nil))) rfl)
      (pss_cons (ps_par (i := 9) (j := 10) rfl scNames.nd rfl rfl (by decide) rfl rfl (pa_cons (pe_slice sl_str (pv 5) po_none (po_some (pv 6))) (pa_cons (pe_slice sl_str (pv 5) (po_some (pv 6)) po_none) pa_nil)) rfl)
      (pss_cons (ps_for PassesOwn.never rfl (pi_range1 rfl mr (pa_cons (pv 1) pa_nil)) (pg_name (i := 4) scNames.nd rfl (.inl rfl))
        (pss_cons (ps_set (i := 11) scNames.nd rfl (.inl rfl) (pe_op op_mul (pe_op op_mod (pe_op op_add (pe_op op_add (pv 3) (pv 6)) (pe_callB call_len_str (by rfl) ml PySem.boot_len (pa_cons (pv 5) pa_nil))) pe_int) (pe_callTy call_int1 (by rfl) mi (by decide +kernel) (pa_cons (pe_cmpR op_ne (pv 10) pe_str (nomark _)) pa_nil))))
        (pss_cons (ps_set (i := 12) scNames.nd rfl (.inl rfl) (pe_ix ix_str (pv 2) (pe_op op_mod (pe_op op_add (pv 3) (pe_op op_mul (pv 7) (pe_ix ix_list (pe_lst (pa_cons (pv 4) (pa_cons (pe_op op_fdiv (pv 4) pe_int) (pa_cons (pv 4) pa_nil)))) (pv 11) (fun _ _ => rfl)))) pe_int) (fun _ _ => rfl)))
        (pss_one (ps_expr (pe_bm PySem.F.plainAttrs_list PySem.F.slot_list_append PySem.F.type_list_append mt_append (pv 8) (pa_cons (pe_op op_add_str (pe_op op_add_str (pv 9) (pv 12)) (pe_ix ix_list (pe_lst (pa_cons (pv 10) (pa_cons (pe_op op_repS (pv 10) (pe_op op_mod (pv 4) pe_int)) (pa_cons (pe_slice sl_str (pv 10) po_none (po_some (pe_op op_mod (pv 4) (pe_op op_add (pe_callB call_len_str (by rfl) ml PySem.boot_len (pa_cons (pv 10) pa_nil)) pe_int)))) pa_nil)))) (pv 11) (fun _ _ => rfl))) pa_nil)))))))
      (pss_one (ps_ret (pv 8))))))), ?_⟩
    have nt : ∀ {G : Hp} {j : Nat} {a : Addr}, TapeAt G t j → G a = none → a ≠ t := fun h e => h.ne_none e
    -- letters, shift
    refine ⟨.ref t, rfl, t, 26, n, rfl, by decide, by decide, hT, by omega, fun sh H1 x1 T1 hs0 hs1 => ⟨by show 2 ≤ sizeLine; decide, fun tp ntp => ?_⟩⟩
    have T1' : TapeAt (upd H1 tp (.tup [.str abc, .int sh])) t (n + 1) := T1.upd (nt T1 ntp)
    have x1' : Ex t H (upd H1 tp (.tup [.str abc, .int sh])) := x1.trans (Same.ex (same_upd ntp))
    refine ⟨tp, _, rfl, SqT.of upd_same, rfl, _, _, rfl, _, _, rfl, rfl, ?_⟩
    -- stem
    refine ⟨⟨_, rfl⟩, .ref t, rfl, t, 8, n + 1, rfl, by decide, by decide, T1', by omega, fun r H2 x2 T2 hr0 hr1 => ⟨r, rfl, by omega, by omega, fun D nD => ?_⟩⟩
    refine lc_it (walk_range (lo := 0) (n := r.toNat)) (fun i H3 => ∃ cs : List Str, Ex t H H3 ∧ TapeAt H3 t (n + 2 + i) ∧ H3 D = some (.lst (cs.map V.str)) ∧ cs.length = i ∧ (cs.map (·.length)).sum = i ∧ ∀ x ∈ cs, Low x) ?_ (fun _ _ _ _ => trivial) ?_ ?_
    · exact ⟨[], (x1'.trans x2).trans (Same.ex (same_upd nD)), T2.upd (nt T2 nD), upd_same, rfl, rfl, fun x hx => by cases hx⟩
    · rintro i x H3 H4 hi ⟨cs, x3, T3, e3, l3, u3, w3⟩ ⟨rfl, rfl⟩
      refine ⟨rfl, .str abc, rfl, .ref t, rfl, t, 26, n + 2 + i, rfl, by decide, by decide, T3, by omega, fun r2 H5 x5 T5 h50 h51 => ?_⟩
      obtain ⟨c, hc, lowc⟩ := letter h50 h51
      have hDt : D ≠ t := nt T2 nD
      have e5 := x5 D _ hDt e3
      refine ⟨abc, r2, c, rfl, rfl, (by decide +kernel), hc, _, e5, ?_, cs ++ [⟨#[c]⟩], ?_, ?_, ?_, ?_, ?_, ?_⟩
      · rw [List.length_map, l3]
        exact small1000 (by omega)
      · intro a o ha ho
        have hD : a ≠ D := by
          intro ea
          subst ea
          rw [x2.free ha nD |> x1'.free ha] at ho
          cases ho
        rw [upd_ne hD]
        exact x5 _ _ ha (x3 _ _ ha ho)
      · have := T5.upd (o := .lst (cs.map V.str ++ [.str ⟨#[c]⟩])) hDt
        exact this.mono (by omega)
      · rw [upd_same, List.map_append]
        rfl
      · rw [List.length_append, l3]
        rfl
      · rw [List.map_append, List.sum_append, u3]
        rfl
      · intro x hx
        rcases List.mem_append.mp hx with hx | hx
        · exact w3 x hx
        · rw [List.mem_singleton.mp hx]
          exact lowc
    · rintro H3 ⟨cs, x3, T3, e3, l3, u3, w3⟩
      refine ⟨Str.ofString "", D, cs, rfl, rfl, .inl (SqL.of e3), ?_, ?_⟩
      · rw [u3, l3, show (Str.ofString "").length = 0 by decide +kernel]
        omega
      have hlen : (Txt.join (Str.ofString "") cs).length ≤ 7 := by
        rw [show Txt.join (Str.ofString "") cs = Str.join (Str.ofString "") cs from StrLaws.glued_eq_join _ _]
        have := StrLaws.join_length_le (Str.ofString "") cs
        rw [u3, show (Str.ofString "").length = 0 by decide +kernel] at this
        omega
      have hlow : Low (Txt.join (Str.ofString "") cs) := by
        rw [show Txt.join (Str.ofString "") cs = Str.join (Str.ofString "") cs from StrLaws.glued_eq_join _ _]
        exact Low.join cs w3
      generalize Txt.join (Str.ofString "") cs = stem at hlen hlow ⊢
      -- at, step, found
      refine ⟨.ref t, rfl, .str stem, rfl, stem, rfl, sz _ (by omega), _, 1, rfl, rfl, t, _, n + 2 + r.toNat, rfl, by omega, by omega, T3, by omega, fun at_ H4 x4 T4 h40 h41 => ?_⟩
      refine ⟨by show 3 ≤ sizeLine; decide, fun l nl => ?_⟩
      have nlt := nt T4 nl
      refine ⟨.ref t, rfl, t, 3, n + 2 + r.toNat + 1, rfl, by decide, by decide, T4.upd nlt, by omega, fun r3 H5 x5 T5 h50 h51 => ?_⟩
      obtain ⟨stv, hst, hst2⟩ := three h50 h51 (V.int 1) (.int 7) (.int 25)
      obtain ⟨st, rfl, hst0, hst1⟩ : ∃ st : Int, stv = .int st ∧ 0 ≤ st ∧ st ≤ 25 := by
        rcases hst2 with rfl | rfl | rfl
        · exact ⟨1, rfl, by decide, by decide⟩
        · exact ⟨7, rfl, by decide, by decide⟩
        · exact ⟨25, rfl, by decide, by decide⟩
      refine ⟨l, _, r3, .int st, rfl, rfl, SqL.of (x5 l _ nlt upd_same), hst, ?_⟩
      refine ⟨Nat.zero_le _, fun p np => ⟨_, _, _, rfl, ?_⟩⟩
      have npt := nt T5 np
      have T6 : TapeAt (upd H5 p (.lst [])) t (n + 12) := (T5.upd npt).mono (by omega)
      have x6 : Ex t H (upd H5 p (.lst [])) := ((x3.trans x4).trans (Same.ex (same_upd nl))).trans (x5.trans (Same.ex (same_upd np)))
      have hpH : H p = none := ((x3.trans x4).trans (Same.ex (same_upd nl))).trans x5 |>.free npt np
      -- head, tail
      refine ⟨.str stem, rfl, .int at_, rfl, at_, rfl, stem, rfl, sz _ (by omega), .str stem, rfl, .int at_, rfl, at_, rfl, stem, rfl, sz _ (by omega), _, _, rfl, ?_⟩
      have lh : (cutS stem none (some at_)).length ≤ 7 := Nat.le_trans (cutS_length _ _ _) hlen
      have lt : (cutS stem (some at_) none).length ≤ 7 := Nat.le_trans (cutS_length _ _ _) hlen
      have wh : Low (cutS stem none (some at_)) := hlow.cut _ _
      have wt : Low (cutS stem (some at_) none) := hlow.cut _ _
      generalize cutS stem none (some at_) = hd at lh wh ⊢
      generalize cutS stem (some at_) none = tl at lt wt ⊢
      -- the loop
      refine ⟨.int (m : Int), rfl, (m : Int), rfl, by omega, by omega, ?_⟩
      refine for_it (walk_range (lo := 0) (n := (m : Int).toNat)) (fun i σ H7 => ∃ (y4 y11 y12 : Option V) (ws : List Str), σ = [some (.ref t), some (.int (m : Int)), some (.str abc), some (.int sh), y4, some (.str stem), some (.int at_), some (.int st), some (.ref p), some (.str hd), some (.str tl), y11, y12] ∧ Ex t H H7 ∧ TapeAt H7 t (n + 12) ∧ H7 p = some (.lst (ws.map V.str)) ∧ ws.length = i ∧ ∀ x ∈ ws, Wd x) ?_ (fun _ _ _ _ _ => trivial) ?_ ?_
      · exact ⟨none, none, none, [], rfl, x6, T6, upd_same, rfl, fun x hx => by cases hx⟩
      · rintro i x σ H8 H7 hi ⟨y4, y11, y12, ws, rfl, x7, T7, e7, l7, b7⟩ ⟨rfl, rfl⟩
        rw [Int.toNat_natCast] at hi
        -- way
        refine ⟨.int sh, rfl, .int at_, rfl, _, _, rfl, rfl, .str stem, rfl, stem, rfl, sz _ (by omega), _, _, rfl, rfl, _, 3, rfl, rfl, (by decide : (0 : Int) < 3), .str tl, rfl, rfl, .inr ⟨_, rfl, _, _, rfl, rfl, .inr (b01 _), ?_⟩⟩
        have hw3 := mod_lt (i := sh + at_ + (stem.length : Int)) (j := 3) (by decide)
        obtain ⟨wy, hwy, hw0, hw1⟩ : ∃ wy : Int, (sh + at_ + (stem.length : Int)) % 3 * (if (!decide (V.str tl = V.str (Str.ofString ""))) = true then (1 : Int) else 0) = wy ∧ 0 ≤ wy ∧ wy < 3 := by
          refine ⟨_, rfl, ?_⟩
          split
          · rw [Int.mul_one]
            exact hw3
          · rw [Int.mul_zero]
            exact ⟨by decide, by decide⟩
        dsimp only
        rw [hwy]
        -- sign
        have ik : ((0 : Int) + (i : Nat)) / 2 ≤ i := by omega
        obtain ⟨kv, hkv, hkv2⟩ := three hw0 hw1 (V.int (0 + (i : Nat))) (V.int ((0 + (i : Nat)) / 2)) (V.int (0 + (i : Nat)))
        obtain ⟨kk, rfl, hk0, hk1⟩ : ∃ kk : Int, kv = .int kk ∧ 0 ≤ kk ∧ kk ≤ 100 := by
          rcases hkv2 with rfl | rfl | rfl
          · exact ⟨_, rfl, by omega, by omega⟩
          · exact ⟨_, rfl, by omega, by omega⟩
          · exact ⟨_, rfl, by omega, by omega⟩
        have hs26 := mod_lt (i := sh + st * kk) (j := 26) (by decide)
        obtain ⟨c, hc, lowc⟩ := letter hs26.1 hs26.2
        refine ⟨.str abc, rfl, .int sh, rfl, .int st, rfl, .int (0 + (i : Nat)), rfl, .int (0 + (i : Nat)), rfl, _, 2, rfl, rfl, ⟨by decide, by decide⟩, .int (0 + (i : Nat)), rfl, by show 3 ≤ sizeLine; decide, fun l1 nl1 => ?_⟩
        have nl1t := nt T7 nl1
        have T8 := T7.upd (o := .lst [.int (0 + (i : Nat)), .int ((0 + (i : Nat)) / 2), .int (0 + (i : Nat))]) nl1t
        have sm8 : Same H7 (upd H7 l1 (.lst [.int (0 + (i : Nat)), .int ((0 + (i : Nat)) / 2), .int (0 + (i : Nat))])) := same_upd nl1
        refine ⟨.int wy, rfl, l1, _, wy, .int kk, rfl, rfl, SqL.of upd_same, hkv, st, kk, rfl, rfl, .inl ⟨by omega, by omega⟩, sh, _, rfl, rfl, _, 26, rfl, rfl, (by decide : (0 : Int) < 26), abc, _, c, rfl, rfl, (by decide +kernel), hc, ?_⟩
        -- append
        have lsg : (⟨#[c]⟩ : Str).length = 1 := rfl
        have lh1 : (hd ++ (⟨#[c]⟩ : Str)).length ≤ 8 := by rw [Str.length_append]; omega
        refine ⟨.ref p, rfl, .inl ⟨rfl, _, SqL.of (sm8 _ _ e7)⟩, .str hd, rfl, .str ⟨#[c]⟩, rfl, hd, _, rfl, rfl, sz _ (by omega), .str tl, rfl, .str tl, rfl, .int (0 + (i : Nat)), rfl, _, 2, rfl, rfl, (by decide : (0 : Int) < 2), tl, _, rfl, rfl, (by omega), ?_⟩
        have lr := rep_len tl ((0 + (i : Nat)) % 2)
        have wr : Low (if ((0 : Int) + (i : Nat)) % 2 = 0 then Str.empty else tl) := wt.rep _
        generalize (if ((0 : Int) + (i : Nat)) % 2 = 0 then Str.empty else tl) = tr at lr wr ⊢
        have hkp := mod_lt (i := (0 : Int) + (i : Nat)) (j := (tl.length : Int) + 1) (by omega)
        refine ⟨.str tl, rfl, .int (0 + (i : Nat)), rfl, .str tl, rfl, tl, rfl, sz _ (by omega), _, 1, rfl, rfl, _, _, rfl, rfl, (by omega), _, rfl, tl, rfl, sz _ (by omega), by show 3 ≤ sizeLine; decide, fun l2 nl2 => ?_⟩
        have lc := cutS_length tl none (some ((0 + (i : Nat)) % ((tl.length : Int) + 1)))
        have wc : Low (cutS tl none (some ((0 + (i : Nat)) % ((tl.length : Int) + 1)))) := wt.cut _ _
        generalize hcc : cutS tl none (some ((0 + (i : Nat)) % ((tl.length : Int) + 1))) = tc at lc wc
        have nl2t := nt T8 nl2
        obtain ⟨tv, htv, htv2⟩ := three hw0 hw1 (V.str tl) (.str tr) (.str tc)
        obtain ⟨tt, rfl, htl, wtt⟩ : ∃ tt : Str, tv = .str tt ∧ tt.length ≤ 7 ∧ Low tt := by
          rcases htv2 with rfl | rfl | rfl
          · exact ⟨_, rfl, lt, wt⟩
          · exact ⟨_, rfl, by omega, wr⟩
          · exact ⟨_, rfl, by omega, wc⟩
        have sm9 := Same.trans sm8 (same_upd (o := .lst [.str tl, .str tr, .str tc]) nl2)
        refine ⟨.int wy, rfl, l2, [.str tl, .str tr, .str tc], wy, .str tt, rfl, rfl, SqL.of upd_same, htv, _, tt, rfl, rfl, sz _ (by omega), p, _, _, rfl, rfl, sm9 _ _ e7, ?_, ?_⟩
        · rw [List.length_map, l7]
          exact small1000 (by omega)
        refine ⟨some (.int (0 + (i : Nat))), some (.int wy), some (.str ⟨#[c]⟩), ws ++ [hd ++ ⟨#[c]⟩ ++ tt], rfl, ?_, ?_, ?_, ?_, ?_⟩
        · intro a o ha ho
          have hp : a ≠ p := by
            intro ea
            subst ea
            rw [hpH] at ho
            cases ho
          rw [upd_ne hp]
          exact sm9 _ _ (x7 _ _ ha ho)
        · exact (T7.same sm9).upd npt
        · rw [upd_same, List.map_append]
          rfl
        · rw [List.length_append, l7]
          rfl
        · intro x hx
          rcases List.mem_append.mp hx with hx | hx
          · exact b7 x hx
          · rw [List.mem_singleton.mp hx]
            exact ⟨by rw [Str.length_append]; omega, (wh.append lowc).append wtt⟩
      · rintro σ H7 ⟨y4, y11, y12, ws, rfl, x7, T7, e7, l7, b7⟩
        rw [Int.toNat_natCast] at l7
        exact ⟨.ref p, rfl, q _ _ ws x7 T7 hpH e7 l7 b7⟩
end
end Sg

namespace Sg
open PySem PySem.Spec PyProof.Rows L2
abbrev sPart : Stmt := topS 11
abbrev nPart : List Str := ["_law_tape_here", "_law_some", "_law_many", "_law_left", "_law_k"]
theorem scPart : FnScope nPart ["_law_tape_here", "_law_some", "_law_many"] (defScope sPart) := ⟨rfl, rfl, rfl, by decide +kernel, rfl, by decide +kernel, by decide +kernel⟩
abbrev sFacets : Stmt := topS 13
abbrev nFacets : List Str := ["_law_tape_here", "_law_many", "_law_most", "_law_found", "_law_name", "_law_words"]
theorem scFacets : FnScope nFacets ["_law_tape_here", "_law_many", "_law_most"] (defScope sFacets) := ⟨rfl, rfl, rfl, by decide +kernel, rfl, by decide +kernel, by decide +kernel⟩
abbrev sCase : Stmt := topS 15
abbrev nCase : List Str := ["_law_tape_here", "_law_a_facets", "_law_pair"]
theorem scCase : FnScope nCase ["_law_tape_here", "_law_a_facets"] (defScope sCase) := ⟨rfl, rfl, rfl, by decide +kernel, rfl, by decide +kernel, by decide +kernel⟩
theorem eraseIdx_map' {α β : Type} (f : α → β) : ∀ (xs : List α) (j : Nat), (xs.map f).eraseIdx j = (xs.eraseIdx j).map f
  | [], _ => rfl
  | _ :: _, 0 => rfl
  | x :: xs, j + 1 => by
    show f x :: (xs.map f).eraseIdx j = f x :: (xs.eraseIdx j).map f
    rw [eraseIdx_map' f xs j]
theorem Ex.upd_free {t p : Addr} {H H' : Hp} {o : HO} (s : Ex t H H') (h : H p = none) : Ex t H (L2.upd H' p o) := fun c u n e => by
  rw [upd_ne (fun q => by subst q; rw [h] at e; cases e)]
  exact s c u n e
abbrev rLen (K : PySem.W.Frag) : List V → Hp → VK → Prop := fun xs H Q => ∃ p ys, xs = [.ref p] ∧ (SqL K H p ys ∨ SqT K H p ys) ∧ Q (.int ys.length) H
abbrev rTupOf (K : PySem.W.Frag) : List V → Hp → VK → Prop := fun xs H Q => ∃ p ys, xs = [.ref p] ∧ ((SqL K H p ys ∧ ∀ l, H l = none → Q (.ref l) (upd H l (.tup ys))) ∨ (SqT K H p ys ∧ Q (.ref p) H))
section
variable {P : Program} {w : World} {K : PySem.W.Frag} {mg : Str → Option Value} {base : Heap}
def spPart : Sp := fun vs H Q _ => ∃ (t : Addr) (v : V) (ws : List Str) (m n : Nat), vs = [.ref t, v, .int (m : Int)] ∧ Rp H v (dW ws) ∧ m ≤ ws.length ∧ ws.length ≤ 30 ∧ TapeAt H t n ∧ n ≤ 900000 ∧
  ∀ (p : Addr) (H' : Hp) (us : List Str), Ex t H H' → TapeAt H' t (n + m) → H p = none → H' p = some (.lst (us.map V.str)) → us.length = m → (∀ x ∈ us, x ∈ ws) → Q (.ref p) H'
theorem ok_part {f fD : Addr} {fd fdD : FuncData} {k : Nat} (F : Fun K "_law_part" "_law_part" sPart f fd) (FD : Fun K "_law_draw" "_law_draw" sDraw fD fdD) (bD : Binds K fdD ["_law_tape_here", "_law_many"] []) (gD : mg "_law_draw" = some (.ref fD))
    (ml : mg "len" = none) (mr : mg "range" = none) (mls : mg "list" = none) : FnOk P w K mg base CX0 (k + 2) f fd ["_law_tape_here", "_law_some", "_law_many"] spPart := by
  have GD : FnOk P w K mg base CX0 (k + 1) fD fdD ["_law_tape_here", "_law_many"] spDraw := ok_draw FD
  refine F.ok scPart (fun vs H Q E h => ?_) (fun cdv A outer s H vs Q E hr h => ?_)
  · obtain ⟨t, v, ws, m, n, rfl, _⟩ := h
    rfl
  · obtain ⟨t, v, ws, m, n, rfl, hv, hm, hw, hT, hn, q⟩ := h
    refine ⟨_, pss_cons (ps_set (i := 3) scPart.nd rfl (.inr rfl) (pe_callTy call_list_of (by rfl) mls (by decide +kernel) (pa_cons (pv 1) pa_nil)))
      (pss_one (ps_ret (pe_lc (own := [("_law_k", 4)]) (g := gName 4) (tt := tYes) (te := tBM K "list" rPopAt (tVar 3) (tCons (tCall spDraw [] E0 (tCons (tVar 0) (tCons (tCB (rLen K) (tCons (tVar 3) tNil)) tNil))) tNil)) rfl scPart.nd (pi_range1 rfl mr (pa_cons (pv 2) pa_nil)) (blkOk_by (N := nPart) (sc := defScope sPart) (by decide +kernel))
          (fun _ _ _ _ _ => pg_name (i := 4) scPart.nd rfl (.inl rfl)) (fun _ _ _ _ _ => pts_nil) (fun _ _ _ _ _ => pe_bm PySem.F.plainAttrs_list PySem.F.slot_list_pop PySem.F.type_list_pop mt_popAt (pv 3) (pa_cons (pe_call GD hr (by rfl) gD FD.kp bD .nil pass0 (pa_cons (pv 0) (pa_cons (pe_callB call_len_seq (by rfl) ml PySem.boot_len (pa_cons (pv 3) pa_nil)) pa_nil))) pa_nil))))), ?_⟩
    obtain ⟨a, rfl, ha⟩ := hv.dW_inv
    refine ⟨.ref a, rfl, a, _, rfl, .inr (SqT.of ha), fun l nl => ?_⟩
    have nlt := hT.ne_none nl
    refine ⟨.int (m : Int), rfl, (m : Int), rfl, by omega, by omega, fun D nD => ?_⟩
    have sm1 : Same H (upd H l (.lst (ws.map V.str))) := same_upd nl
    have nDl : D ≠ l := fun e => by
      subst e
      rw [upd_same] at nD
      cases nD
    have nDH : H D = none := sm1.free nD
    have nDt := hT.ne_none nDH
    refine lc_it (walk_range (lo := 0) (n := (m : Int).toNat)) (fun i H3 => ∃ us rs : List Str, Ex t H H3 ∧ TapeAt H3 t (n + i) ∧ H3 l = some (.lst (rs.map V.str)) ∧ rs.length + i = ws.length ∧ (∀ x ∈ rs, x ∈ ws) ∧ H3 D = some (.lst (us.map V.str)) ∧ us.length = i ∧ ∀ x ∈ us, x ∈ ws) ?_ (fun _ _ _ _ => trivial) ?_ ?_
    · refine ⟨[], ws, (Same.ex sm1).trans (Same.ex (same_upd nD)), ((hT.same sm1).upd nDt).mono (by omega), ?_, rfl, fun x h => h, upd_same, rfl, fun x hx => by cases hx⟩
      rw [upd_ne nDl.symm, upd_same]
    · rintro i x H4 H3 hi ⟨us, rs, x3, T3, e3, l3, w3, d3, ld, wd⟩ ⟨rfl, rfl⟩
      rw [Int.toNat_natCast] at hi
      refine ⟨rfl, .ref l, rfl, .inl ⟨rfl, _, SqL.of e3⟩, .ref t, rfl, .ref l, rfl, l, _, rfl, .inl (SqL.of e3), t, _, n + i, rfl, ?_, ?_, T3, by omega, fun r H5 x5 T5 h50 h51 => ?_⟩
      · rw [List.length_map]
        omega
      · rw [List.length_map]
        omega
      rw [List.length_map] at h51
      have e5 := x5 l _ nlt e3
      have d5 := x5 D _ nDt d3
      obtain ⟨j, rfl⟩ : ∃ j : Nat, r = j := ⟨r.toNat, by omega⟩
      have hj : j < rs.length := by omega
      refine ⟨l, _, (j : Int), j, .str rs[j], rfl, rfl, e5, by omega, by omega, ?_, ?_, us.map V.str, ?_, ?_, us ++ [rs[j]], rs.eraseIdx j, ?_, ?_, ?_, ?_, ?_, ?_, ?_, ?_⟩
      · rw [List.length_map]
        unfold seqIndex?
        simp
        omega
      · rw [List.getElem?_map, List.getElem?_eq_getElem hj]
        rfl
      · rw [upd_ne nDl]
        exact d5
      · rw [List.length_map, ld]
        exact small1000 (by omega)
      · exact ((x3.trans x5).upd_free nl).upd_free nDH
      · exact ((T5.upd nlt).upd nDt).mono (by omega)
      · rw [upd_ne nDl.symm, upd_same, eraseIdx_map']
      · rw [List.length_eraseIdx_of_lt hj]
        omega
      · exact fun x hx => w3 x (List.mem_of_mem_eraseIdx hx)
      · rw [upd_same, List.map_append]
        rfl
      · rw [List.length_append, ld]
        rfl
      · intro x hx
        rcases List.mem_append.mp hx with hx | hx
        · exact wd x hx
        · rw [List.mem_singleton.mp hx]
          exact w3 _ (List.getElem_mem hj)
    · rintro H3 ⟨us, rs, x3, T3, e3, l3, w3, d3, ld, wd⟩
      rw [Int.toNat_natCast] at T3 ld
      exact q _ _ us x3 T3 nDH d3 ld wd
/-- facets as they are drawn -/
def FOk (fs : List (Str × List Str)) : Prop := ∀ p ∈ fs, Wd p.1 ∧ 2 ≤ p.2.length ∧ p.2.length ≤ 4 ∧ ∀ x ∈ p.2, Wd x
def spFacets : Sp := fun vs H Q _ => ∃ (t : Addr) (m n : Nat) (s : Int), vs = [.ref t, .int (m : Int), .int s] ∧ m ≤ 4 ∧ 2 ≤ s ∧ s ≤ 4 ∧ TapeAt H t n ∧ n ≤ 800000 ∧
  ∀ (v : V) (H' : Hp) (fs : List (Str × List Str)), Ex t H H' → TapeAt H' t (n + 100) → Rp H' v (dF fs) → fs.length = m → FOk fs → Q v H'
theorem ok_facets {f fD fN : Addr} {fd fdD fdN : FuncData} {k : Nat} (F : Fun K "_law_facets" "_law_facets" sFacets f fd) (FD : Fun K "_law_draw" "_law_draw" sDraw fD fdD) (bD : Binds K fdD ["_law_tape_here", "_law_many"] []) (gD : mg "_law_draw" = some (.ref fD))
    (FN : Fun K "_law_names" "_law_names" sNames fN fdN) (bN : Binds K fdN ["_law_tape_here", "_law_many"] []) (gN : mg "_law_names" = some (.ref fN))
    (ml : mg "len" = none) (mr : mg "range" = none) (mi : mg "int" = none) (ms : mg "sorted" = none) (mt : mg "tuple" = none) : FnOk P w K mg base CX0 (k + 3) f fd ["_law_tape_here", "_law_many", "_law_most"] spFacets := by
  have GD : FnOk P w K mg base CX0 (k + 2) fD fdD ["_law_tape_here", "_law_many"] spDraw := ok_draw FD
  have GN : FnOk P w K mg base CX0 (k + 2) fN fdN ["_law_tape_here", "_law_many"] spNames := ok_names FN FD bD gD ml mr mi
  refine F.ok scFacets (fun vs H Q E h => ?_) (fun cdv A outer s H vs Q E hr h => ?_)
  · obtain ⟨t, m, n, s, rfl, _⟩ := h
    rfl
  · obtain ⟨t, m, n, so, rfl, hm, hs0, hs1, hT, hn, q⟩ := h
    refine ⟨_, pss_cons (ps_set (i := 3) scFacets.nd rfl (.inl rfl) (pe_lst pa_nil))
      (pss_cons (ps_for PassesOwn.never rfl (pi_list (pe_callB cr_sortedS (by rfl) ms (by decide +kernel) (pa_cons (pe_call GN hr (by rfl) gN FN.kp bN .nil pass0 (pa_cons (pv 0) (pa_cons (pv 1) pa_nil))) pa_nil))) (pg_name (i := 4) scFacets.nd rfl (.inl rfl))
        (pss_cons (ps_set (i := 5) scFacets.nd rfl (.inl rfl) (pe_tupleOf (by rfl) mt (pe_callB cr_sortedS (by rfl) ms (by decide +kernel) (pa_cons (pe_call GN hr (by rfl) gN FN.kp bN .nil pass0 (pa_cons (pv 0) (pa_cons (pe_op op_add pe_int (pe_call GD hr (by rfl) gD FD.kp bD .nil pass0 (pa_cons (pv 0) (pa_cons (pe_op op_sub (pv 2) pe_int) pa_nil)))) pa_nil))) pa_nil))))
        (pss_one (ps_expr (pe_bm PySem.F.plainAttrs_list PySem.F.slot_list_append PySem.F.type_list_append mt_append (pv 3) (pa_cons (pe_tup (pa_cons (pv 4) (pa_cons (pe_ifExp (PW.pt (pw_and (pt_cmpR (op_neD hr.units) (pv 3) (pe_lst pa_nil) (nomark _)) (pw_and1 (pt_cmpR op_eq (pe_call GD hr (by rfl) gD FD.kp bD .nil pass0 (pa_cons (pv 0) (pa_cons pe_int pa_nil))) pe_int (nomark _)))))
            (pe_ix ix_tup (pe_ix ix_list (pv 3) (pe_un un_neg pe_int) (fun _ _ => rfl)) pe_int (fun _ _ => rfl)) (pv 5)) pa_nil))) pa_nil))))))
      (pss_one (ps_ret (pe_tupleOf (by rfl) mt (pv 3))))), ?_⟩
    refine ⟨Nat.zero_le _, fun l nl => ?_⟩
    have nlt := hT.ne_none nl
    refine ⟨.ref t, rfl, .int (m : Int), rfl, t, m, n, rfl, by omega, hT.upd nlt, by omega, fun p H1 ws x1 T1 np e1 l1 b1 => ?_⟩
    refine ⟨p, ws, rfl, SqL.of e1, by omega, fun ys p2 hperm _ np2 => ?_⟩
    have b2 : ∀ x ∈ ys, Wd x := fun x hx => b1 x (hperm.mem_iff.mp hx)
    have ly : ys.length = m := by rw [hperm.length_eq, l1]
    have x1' : Ex t H H1 := (Same.ex (same_upd nl)).trans x1
    have np2t := T1.ne_none np2
    have np2H : H p2 = none := x1'.free np2t np2
    have hl1 : H1 l = some (.lst []) := x1 l _ nlt upd_same
    have nlp2 : l ≠ p2 := ne_of_none hl1 np2
    refine ⟨p2, rfl, ⟨_, SqL.of upd_same⟩, ?_⟩
    refine for_it (walk_list (xs := ys.map V.str)) (fun i σ H3 => ∃ (y4 y5 : Option V) (vs : List V) (fs : List (Str × List Str)), σ = [some (.ref t), some (.int (m : Int)), some (.int so), some (.ref l), y4, y5] ∧ Ex t H H3 ∧ TapeAt H3 t (n + 12 + 14 * i) ∧ H3 p2 = some (.lst (ys.map V.str)) ∧ H3 l = some (.lst vs) ∧ RpAll H3 vs (fs.map dP) ∧ fs.length = i ∧ FOk fs) ?_ ?_ ?_ ?_
    · refine ⟨none, none, [], [], rfl, x1'.trans (Same.ex (same_upd np2)), (T1.upd np2t).mono (by omega), upd_same, ?_, .nil, rfl, fun p hp => by cases hp⟩
      rw [upd_ne nlp2]
      exact hl1
    · rintro i σ H3 _ ⟨y4, y5, vs, fs, rfl, x3, T3, e3, d3, r3, l3, f3⟩
      exact SqL.of e3
    · rintro i x σ H4 H3 hi ⟨y4, y5, vs, fs, rfl, x3, T3, e3, d3, r3, l3, f3⟩ ⟨rfl, fx⟩
      rw [List.length_map] at hi
      rw [List.getElem?_map, List.getElem?_eq_getElem hi] at fx
      cases fx
      have hin : n + 12 + 14 * i ≤ 800100 := by omega
      refine ⟨.ref t, rfl, .ref t, rfl, .int so, rfl, so, 1, rfl, rfl, t, so - 1, _, rfl, by omega, by omega, T3, by omega, fun r H5 x5 T5 h50 h51 => ?_⟩
      obtain ⟨r', rfl⟩ : ∃ r' : Nat, r = r' := ⟨r.toNat, by omega⟩
      refine ⟨2, (r' : Int), rfl, rfl, t, 2 + r', _, by rfl, by omega, T5, by omega, fun p3 H6 us x6 T6 np3 e6 l6 b6 => ?_⟩
      refine ⟨p3, us, rfl, SqL.of e6, by omega, fun zs p4 hperm2 _ np4 => .inl ⟨p4, _, rfl, SqL.of upd_same, fun p5 np5 => ?_⟩⟩
      have lz : zs.length = 2 + r' := by rw [hperm2.length_eq, l6]
      have bz : ∀ x ∈ zs, Wd x := fun x hx => b6 x (hperm2.mem_iff.mp hx)
      have np4t := T6.ne_none np4
      have T7 := T6.upd (o := .lst (zs.map V.str)) np4t
      have np5t := T7.ne_none np5
      have T8 := T7.upd (o := .tup (zs.map V.str)) np5t
      have sm : Same H6 (upd (upd H6 p4 (.lst (zs.map V.str))) p5 (.tup (zs.map V.str))) := Same.trans (same_upd np4) (same_upd np5)
      have x8 : Ex t H3 (upd (upd H6 p4 (.lst (zs.map V.str))) p5 (.tup (zs.map V.str))) := (x5.trans x6).trans (Same.ex sm)
      have np2t' : p2 ≠ t := np2t
      have e8 := x8 _ _ np2t' e3
      have d8 := x8 _ _ nlt d3
      have r8 := r3.keep (T3.keepT x8) (immAll_map imm_dP fs)
      have hw8 : Rp (upd (upd H6 p4 (.lst (zs.map V.str))) p5 (.tup (zs.map V.str))) (.ref p5) (dW zs) := Rp.dW_mk upd_same
      have x38 := x3.trans x8
      clear hw8
      have hw8 : Rp (upd (upd H6 p4 (.lst (zs.map V.str))) p5 (.tup (zs.map V.str))) (.ref p5) (dW zs) := Rp.dW_mk upd_same
      generalize upd (upd H6 p4 (.lst (zs.map V.str))) p5 (.tup (zs.map V.str)) = H8 at *
      have fin : ∀ (H9 : Hp) (v : V) (us' : List Str) (y5' : Option V), Ex t H8 H9 → TapeAt H9 t (n + 12 + 14 * (i + 1)) → Rp H9 v (dW us') → 2 ≤ us'.length → us'.length ≤ 4 → (∀ x ∈ us', Wd x) →
          (2 ≤ sizeLine ∧ ∀ T, H9 T = none → ∃ l' xs y, V.ref l = .ref l' ∧ [V.ref T] = [y] ∧ upd H9 T (.tup [.str ys[i], v]) l' = some (.lst xs) ∧ xs.length < sizeLine ∧
            ∃ (y4 y5 : Option V) (vs : List V) (fs : List (Str × List Str)), [some (.ref t), some (.int (m : Int)), some (.int so), some (.ref l), some (.str ys[i]), y5'] = [some (.ref t), some (.int (m : Int)), some (.int so), some (.ref l), y4, y5] ∧ Ex t H (upd (upd H9 T (.tup [.str ys[i], v])) l' (.lst (xs ++ [y]))) ∧ TapeAt (upd (upd H9 T (.tup [.str ys[i], v])) l' (.lst (xs ++ [y]))) t (n + 12 + 14 * (i + 1)) ∧ (upd (upd H9 T (.tup [.str ys[i], v])) l' (.lst (xs ++ [y]))) p2 = some (.lst (ys.map V.str)) ∧ (upd (upd H9 T (.tup [.str ys[i], v])) l' (.lst (xs ++ [y]))) l = some (.lst vs) ∧ RpAll (upd (upd H9 T (.tup [.str ys[i], v])) l' (.lst (xs ++ [y]))) vs (fs.map dP) ∧ fs.length = i + 1 ∧ FOk fs) := by
        intro H9 v us' y5' x9 T9 hv hu0 hu1 hu2
        refine ⟨by decide, fun T nT => ?_⟩
        have nTt := T9.ne_none nT
        have d9 := x9 _ _ nlt d8
        have e9 := x9 _ _ np2t' e8
        have nlT : l ≠ T := ne_of_none d9 nT
        have np2T : p2 ≠ T := ne_of_none e9 nT
        have kT : KeepT H9 (upd (upd H9 T (.tup [.str ys[i], v])) l (.lst (vs ++ [.ref T]))) := (Same.keepT (same_upd nT)).trans (keepT_lst (xs := vs) (by rw [upd_ne nlT]; exact d9))
        refine ⟨l, vs, .ref T, rfl, rfl, ?_, ?_, some (.str ys[i]), y5', vs ++ [.ref T], fs ++ [(ys[i], us')], rfl, ?_, ?_, ?_, upd_same, ?_, ?_, ?_⟩
        · rw [upd_ne nlT]
          exact d9
        · rw [r8.length, List.length_map, l3]
          exact small1000 (by omega)
        · exact ((x38.trans x9).trans (Same.ex (same_upd nT))).upd_free nl
        · exact (T9.upd nTt).upd nlt
        · rw [upd_ne nlp2.symm, upd_ne np2T]
          exact e9
        · rw [List.map_append]
          refine ((r8.keep (T8.keepT x9) (immAll_map imm_dP fs)).keep kT (immAll_map imm_dP fs)).append (.cons (.tup (xs := [.str ys[i], v]) ?_ (.cons (.str _) (.cons (hv.keep kT (imm_dW us')) .nil))) .nil)
          rw [upd_ne nlT.symm, upd_same]
        · rw [List.length_append, l3]
          rfl
        · intro p hp
          rcases List.mem_append.mp hp with hp | hp
          · exact f3 p hp
          · rw [List.mem_singleton.mp hp]
            exact ⟨b2 _ (List.getElem_mem hi), hu0, hu1, hu2⟩
      refine ⟨.ref l, rfl, .inl ⟨rfl, _, SqL.of d8⟩, .str ys[i], rfl, .ref l, rfl, Nat.zero_le _, fun z nz => ?_⟩
      have nzt := T8.ne_none nz
      refine ⟨.list (fs.map dP), .list [], Rp.dp (.lst (same_upd nz _ _ d8) (r8.same (same_upd nz))), Rp.dp (.lst upd_same .nil), shaped_of (canLayAll_map fun p hp => lay_dP (f3 p hp).1 (f3 p hp).2.2.2) (by have := depthAll_map (k := 2) (xs := fs) fun p _ => dep_dP p; show PyData.depthAll _ + 1 ≤ 64; omega), rfl, _, rfl, ?_⟩
      rw [eqv_nil_l]
      cases hfs : fs with
      | nil => exact ⟨_, rfl, fin _ _ zs _ (Same.ex (same_upd nz)) ((T8.upd nzt).mono (by omega)) (hw8.same (same_upd nz)) (by omega) (by omega) bz⟩
      | cons f0 fr =>
        refine ⟨.ref t, rfl, t, 4, _, rfl, by decide, by decide, T8.upd nzt, by omega, fun r2 H9 x9 T9 h90 h91 => ⟨rfl, _, rfl, ite2 (fun h0 => ?_) (fun h0 => ?_)⟩⟩
        · have hfl : fs.length - 1 < fs.length := by rw [hfs]; simp
          have hget : (fs.map dP)[fs.length - 1]? = some (dP fs[fs.length - 1]) := by rw [List.getElem?_map, List.getElem?_eq_getElem hfl]; rfl
          have x89 : Ex t H8 H9 := (Same.ex (same_upd nz)).trans x9
          have r9 := r8.keep (T8.keepT x89) (immAll_map imm_dP fs)
          obtain ⟨v9, hv9, hr9⟩ := r9.getD hget
          have hvl := r8.length
          rw [List.length_map] at hvl
          cases hr9 with
          | tup ha hs =>
            rename_i a9 xs9
            cases hs with
            | cons h1 hs2 =>
              cases hs2 with
              | cons h2 hs3 =>
                cases hs3
                have hat : atI vs (-1) = some (.ref a9) := by
                  have hv1 : vs = vs.dropLast ++ [.ref a9] := by
                    have hne : vs ≠ [] := by intro z; rw [z] at hvl; simp at hvl; omega
                    rw [← hvl] at hv9
                    have : vs.getLast hne = .ref a9 := by
                      rw [List.getLast_eq_getElem]
                      have := List.getElem?_eq_getElem (l := vs) (i := vs.length - 1) (by rw [hvl]; exact hfl)
                      rw [this] at hv9
                      exact Option.some.inj hv9
                    rw [← this, List.dropLast_concat_getLast]
                  rw [hv1]
                  exact atI_last _ _
                have hp0 := f3 _ (List.getElem_mem hfl)
                exact ⟨.ref l, rfl, 1, rfl, l, vs, -1, .ref a9, rfl, rfl, SqL.of (x89 _ _ nlt d8), hat, a9, _, 1, _, rfl, rfl, SqT.of ha, rfl, fin _ _ _ _ x89 (T9.mono (by omega)) h2 hp0.2.1 hp0.2.2.1 hp0.2.2.2⟩
        · have x89 : Ex t H8 H9 := (Same.ex (same_upd nz)).trans x9
          exact ⟨_, rfl, fin _ _ zs _ x89 (T9.mono (by omega)) (hw8.keep (T8.keepT x89) (imm_dW zs)) (by omega) (by omega) bz⟩
    · rintro σ H3 ⟨y4, y5, vs, fs, rfl, x3, T3, e3, d3, r3, l3, f3⟩
      rw [List.length_map, ly] at T3 l3
      refine ⟨.ref l, rfl, .inl ⟨l, _, rfl, SqL.of d3, fun z nz => ?_⟩⟩
      exact q _ _ fs (x3.trans (Same.ex (same_upd nz))) ((T3.upd (T3.ne_none nz)).mono (by omega)) (.tup upd_same (r3.same (same_upd nz))) l3 f3
end
end Sg

namespace Sg
open PySem PySem.Spec PyProof.Rows L2
/-- a case as they are drawn -/
def COk (c : List (List Str)) : Prop := c.length ≤ 4 ∧ ∀ ws ∈ c, 1 ≤ ws.length ∧ ws.length ≤ 4 ∧ ∀ x ∈ ws, Wd x
theorem Rp.dP_inv {H : Hp} {v : V} {p : Str × List Str} (h : Rp H v (dP p)) : ∃ a u, v = .ref a ∧ H a = some (.tup [.str p.1, u]) ∧ Rp H u (dW p.2) := by
  cases h with
  | tup ha hs =>
    cases hs with
    | cons h1 hs2 =>
      cases hs2 with
      | cons h2 hs3 =>
        cases hs3
        cases h1
        exact ⟨_, _, rfl, ha, h2⟩
section
variable {P : Program} {w : World} {K : PySem.W.Frag} {mg : Str → Option Value} {base : Heap}
def spCase : Sp := fun vs H Q _ => ∃ (t : Addr) (v : V) (n : Nat) (fs : List (Str × List Str)), vs = [.ref t, v] ∧ Rp H v (dF fs) ∧ FOk fs ∧ fs.length ≤ 4 ∧ TapeAt H t n ∧ n ≤ 800000 ∧
  ∀ (v : V) (H' : Hp) (c : List (List Str)), Ex t H H' → TapeAt H' t (n + 20) → Rp H' v (dC c) → c.length = fs.length → COk c → Q v H'
theorem ok_case {f fD fP : Addr} {fd fdD fdP : FuncData} {k : Nat} (F : Fun K "_law_case" "_law_case" sCase f fd) (FD : Fun K "_law_draw" "_law_draw" sDraw fD fdD) (bD : Binds K fdD ["_law_tape_here", "_law_many"] []) (gD : mg "_law_draw" = some (.ref fD))
    (FP : Fun K "_law_part" "_law_part" sPart fP fdP) (bP : Binds K fdP ["_law_tape_here", "_law_some", "_law_many"] []) (gP : mg "_law_part" = some (.ref fP))
    (ml : mg "len" = none) (mr : mg "range" = none) (mls : mg "list" = none) (ms : mg "sorted" = none) (mt : mg "tuple" = none) : FnOk P w K mg base CX0 (k + 3) f fd ["_law_tape_here", "_law_a_facets"] spCase := by
  have GD : FnOk P w K mg base CX0 (k + 2) fD fdD ["_law_tape_here", "_law_many"] spDraw := ok_draw FD
  have GP : FnOk P w K mg base CX0 (k + 2) fP fdP ["_law_tape_here", "_law_some", "_law_many"] spPart := ok_part FP FD bD gD ml mr mls
  refine F.ok scCase (fun vs H Q E h => ?_) (fun cdv A outer s H vs Q E hr h => ?_)
  · obtain ⟨t, v, n, fs, rfl, _⟩ := h
    rfl
  · obtain ⟨t, v, n, fs, rfl, hv, hF, hfl, hT, hn, q⟩ := h
    refine ⟨_, pss_one (ps_ret (pe_tupleOf (by rfl) mt (pe_lc (own := [("_law_pair", 2)]) (g := gName 2) (tt := tYes)
        (te := tThen (tCB (rSortedS K) (tCons (tCall spPart [] E0 (tCons (tVar 0) (tCons (tOp (rIxT K) (tVar 2) (tC (.int 1))) (tCons (tOp (rI0 fun i j => .int (i + j)) (tC (.int 1)) (tCall spDraw [] E0 (tCons (tVar 0) (tCons (tCB (rLen K) (tCons (tOp (rIxT K) (tVar 2) (tC (.int 1))) tNil)) tNil)))) tNil)))) tNil)) (kTup K))
        rfl scCase.nd (pi_tup (pv 1)) (blkOk_by (N := nCase) (sc := defScope sCase) (by decide +kernel))
        (fun _ _ _ _ _ => pg_name (i := 2) scCase.nd rfl (.inl rfl)) (fun _ _ _ _ _ => pts_nil)
        (fun _ _ _ _ _ => pe_tupleOf (by rfl) mt (pe_callB cr_sortedS (by rfl) ms (by decide +kernel) (pa_cons (pe_call GP hr (by rfl) gP FP.kp bP .nil pass0 (pa_cons (pv 0) (pa_cons (pe_ix ix_tup (pv 2) pe_int (fun _ _ => rfl)) (pa_cons (pe_op op_add pe_int (pe_call GD hr (by rfl) gD FD.kp bD .nil pass0 (pa_cons (pv 0) (pa_cons (pe_callB call_len_seq (by rfl) ml PySem.boot_len (pa_cons (pe_ix ix_tup (pv 2) pe_int (fun _ _ => rfl)) pa_nil)) pa_nil)))) pa_nil)))) pa_nil)))))), ?_⟩
    unfold dF at hv
    cases hv with
    | tup ha hs =>
      rename_i a vs
      refine ⟨.ref a, rfl, a, rfl, ⟨vs, SqT.of ha⟩, fun D nD => ?_⟩
      have nDt := hT.ne_none nD
      have hlen := hs.length
      rw [List.length_map] at hlen
      have x0 : Ex t H (upd H D (.lst [])) := Same.ex (same_upd nD)
      refine lc_it (walk_tup (xs := vs)) (fun i H3 => ∃ (c : List (List Str)) (us : List V), Ex t H H3 ∧ TapeAt H3 t (n + 5 * i) ∧ H3 D = some (.lst us) ∧ RpAll H3 us (c.map dW) ∧ c.length = i ∧ ∀ ws ∈ c, 1 ≤ ws.length ∧ ws.length ≤ 4 ∧ ∀ x ∈ ws, Wd x) ?_ ?_ ?_ ?_
      · exact ⟨[], [], x0, hT.upd nDt, upd_same, .nil, rfl, fun ws hw => by cases hw⟩
      · rintro i H3 _ ⟨c, us, x3, _⟩
        exact SqT.of (x3 _ _ (hT.ne_tup ha) ha)
      · rintro i x H4 H3 hi ⟨c, us, x3, T3, d3, r3, l3, w3⟩ ⟨rfl, fx⟩
        obtain ⟨d, hd, hr0⟩ := hs.get fx
        have hif : i < fs.length := by omega
        rw [List.getElem?_map, List.getElem?_eq_getElem hif] at hd
        cases hd
        obtain ⟨b, u, rfl, hb, hu⟩ := (hr0.keep (hT.keepT x3) (imm_dP _)).dP_inv
        obtain ⟨g, rfl, hg⟩ := hu.dW_inv
        have hp := hF _ (List.getElem_mem hif)
        refine ⟨rfl, .ref t, rfl, .ref b, rfl, b, _, 1, .ref g, rfl, rfl, SqT.of hb, rfl, .ref t, rfl, .ref b, rfl, b, _, 1, .ref g, rfl, rfl, SqT.of hb, rfl, g, _, rfl, .inr (SqT.of hg), t, _, _, rfl, ?_, ?_, T3, by omega, fun r H5 x5 T5 h50 h51 => ?_⟩
        · rw [List.length_map]
          omega
        · rw [List.length_map]
          omega
        rw [List.length_map] at h51
        obtain ⟨r', rfl⟩ : ∃ r' : Nat, r = r' := ⟨r.toNat, by omega⟩
        refine ⟨1, (r' : Int), rfl, rfl, t, .ref g, _, 1 + r', _, by rfl, (Rp.dW_mk hg).keep (T3.keepT x5) (imm_dW _), by omega, by omega, T5, by omega, fun p H6 ws x6 T6 np e6 l6 w6 => ?_⟩
        refine ⟨p, ws, rfl, SqL.of e6, by omega, fun ys p2 hperm _ np2 => .inl ⟨p2, _, rfl, SqL.of upd_same, fun p3 np3 => ?_⟩⟩
        have sm : Same H6 (upd (upd H6 p2 (.lst (ys.map V.str))) p3 (.tup (ys.map V.str))) := Same.trans (same_upd np2) (same_upd np3)
        have x8 : Ex t H3 (upd (upd H6 p2 (.lst (ys.map V.str))) p3 (.tup (ys.map V.str))) := (x5.trans x6).trans (Same.ex sm)
        have T8 := T6.same sm
        have hy8 : Rp (upd (upd H6 p2 (.lst (ys.map V.str))) p3 (.tup (ys.map V.str))) (.ref p3) (dW ys) := Rp.dW_mk upd_same
        generalize upd (upd H6 p2 (.lst (ys.map V.str))) p3 (.tup (ys.map V.str)) = H8 at *
        have d8 := x8 _ _ nDt d3
        have kT : KeepT H8 (upd H8 D (.lst (us ++ [.ref p3]))) := keepT_lst d8
        have ly : ys.length = 1 + r' := by rw [hperm.length_eq, l6]
        refine ⟨us, d8, ?_, c ++ [ys], us ++ [.ref p3], ?_, ?_, upd_same, ?_, ?_, ?_⟩
        · rw [r3.length, List.length_map, l3]
          exact small1000 (by omega)
        · exact (x3.trans x8).upd_free nD
        · exact (T8.upd nDt).mono (by omega)
        · rw [List.map_append]
          exact ((r3.keep (T3.keepT x8) (immAll_map imm_dW c)).keep kT (immAll_map imm_dW c)).append (.cons (hy8.keep kT (imm_dW ys)) .nil)
        · rw [List.length_append, l3]
          rfl
        · intro zs hz
          rcases List.mem_append.mp hz with hz | hz
          · exact w3 zs hz
          · rw [List.mem_singleton.mp hz]
            exact ⟨by omega, by omega, fun x hx => hp.2.2.2 x (w6 x (hperm.mem_iff.mp hx))⟩
      · rintro H3 ⟨c, us, x3, T3, d3, r3, l3, w3⟩
        refine .inl ⟨D, _, rfl, SqL.of d3, fun z nz => ?_⟩
        exact q _ _ c (x3.trans (Same.ex (same_upd nz))) ((T3.upd (T3.ne_none nz)).mono (by omega)) (.tup upd_same (r3.same (same_upd nz))) (by omega) ⟨by omega, w3⟩
end
end Sg

namespace Sg
open PySem PySem.Spec PyProof.Rows L2
abbrev sSame : Stmt := topS 12
abbrev nSame : List Str := ["_law_found", "_law_due", "_law_m", "_law_t"]
theorem scSame : FnScope nSame ["_law_found", "_law_due"] (defScope sSame) := ⟨rfl, rfl, rfl, by decide +kernel, rfl, by decide +kernel, by decide +kernel⟩
theorem walk_zipT {K : PySem.W.Frag} {a b : Addr} {xs ys : List V} {n : Nat} (hn : n = min xs.length ys.length) : Walk (RZ.ItzT K a b) n (fun H => SqT K H a xs ∧ SqT K H b ys) (YPair (fun i => xs[i]?) (fun i => ys[i]?)) := by
  subst hn
  refine ⟨fun i _ hi q => ?_, fun _ q => ⟨xs, ys, q.1, q.2, by omega⟩, fun i H v H' _ q y => ?_⟩
  · have h1 : i < xs.length := by omega
    have h2 : i < ys.length := by omega
    exact ⟨xs, ys, xs[i], ys[i], q.1, q.2, by simp [h1], by simp [h2]⟩
  · obtain ⟨T, x, z, h1, h2, h3, h4, h5⟩ := y
    exact ⟨T, x, z, h1, h2, h3, h4 xs q.1, h5 ys q.2⟩
def tyD : PyData → String
  | .none => "NoneType"
  | .bool _ => "bool"
  | .int _ => "int"
  | .str _ => "str"
  | .list _ => "list"
  | .tuple _ => "tuple"
  | .dict _ => "dict"
theorem Rp.ty {K : PySem.W.Frag} {H : Hp} {v : V} {d : PyData} (h : Rp H v d) : TyX K H v (.type (tyD d)) := by
  cases h with
  | non => exact .base .non
  | bl b => exact .base (.bl b)
  | int i => exact .base (.int i)
  | str x => exact .base (.str x)
  | lst h _ => exact .base (.lst h)
  | tup h _ => exact .base (.tup h)
def Fit : Nat → PyData → Prop
  | n + 1, .list ds => ds.length ≤ 1000 ∧ ∀ d ∈ ds, Fit n d
  | n + 1, .tuple ds => ds.length ≤ 1000 ∧ ∀ d ∈ ds, Fit n d
  | 0, .list _ => False
  | 0, .tuple _ => False
  | _, .dict _ => False
  | _, _ => True
def spSame : Nat → Sp
  | 0 => fun _ _ _ _ => False
  | n + 1 => fun vs H Q _ => ∃ (u v : V) (d : PyData), vs = [u, v] ∧ Rp H u d ∧ Rp H v d ∧ Fit n d ∧ ∀ H', Same H H' → Q (.bl true) H'
theorem kitA {K : PySem.W.Frag} {t a b : String} {x y : Bool} (hx : kitB t a = some x) (hy : kitB t b = some y) : PySem.W.kitAny K (.type t) [.type a, .type b] = some (x || y) := by
  refine kitAny_cons (b := x) (kit_ty hx) (fun e => kitAny_cons (b := y) (kit_ty hy) (fun e2 => ?_) (fun e2 => ?_)) (fun e => ?_)
  · rw [e, e2]; exact kitAny_nil
  · rw [e2, Bool.or_true]
  · rw [e, Bool.true_or]
section
variable {P : Program} {w : World} {K : PySem.W.Frag} {mg : Str → Option Value} {base : Heap}
theorem all_true (n : Nat) : (List.replicate n true).all id = true := by
  rw [List.all_eq_true]
  intro x hx
  rw [List.eq_of_mem_replicate hx]
  rfl
theorem ok_same {f : Addr} {fd : FuncData} (F : Fun K "_law_same" "_law_same" sSame f fd) (b : Binds K fd ["_law_found", "_law_due"] []) (g : mg "_law_same" = some (.ref f))
    (mis : mg "isinstance" = none) (mls : mg "list" = none) (mt : mg "tuple" = none) (ml : mg "len" = none) (ma : mg "all" = none) (mz : mg "zip" = none) (mst : mg "str" = none) (mb : mg "bool" = none) (mi : mg "int" = none) :
    ∀ n, FnOk P w K mg base CX0 n f fd ["_law_found", "_law_due"] (spSame n) := by
  intro n
  induction n with
  | zero => exact ⟨fun _ _ _ _ h => h.elim, fun _ _ _ _ _ _ _ _ _ _ _ _ _ h => h.elim⟩
  | succ n ih =>
    refine F.ok scSame (fun vs H Q E h => ?_) (fun cdv A outer s H vs Q E hr h => ?_)
    · obtain ⟨u, v, d, rfl, _⟩ := h
      rfl
    · obtain ⟨u, v, d, rfl, hu, hv, hfit, q⟩ := h
      refine ⟨_, pss_cons (ps_if (pt_val (pe_callB call_isiT (by rfl) mis (by decide +kernel) (pa_cons (pv 1) (pa_cons (pe_tup (pa_cons (pe_bltn (v := .ty "list") (by rfl) mls (by decide +kernel) rfl) (pa_cons (pe_bltn (v := .ty "tuple") (by rfl) mt (by decide +kernel) rfl) pa_nil))) pa_nil))))
          (pss_cons (ps_if (PW.pt (pw_or (pt_cmpR op_ne (pe_callB call_isi (by rfl) mis (by decide +kernel) (pa_cons (pv 0) (pa_cons (pe_bltn (v := .ty "list") (by rfl) mls (by decide +kernel) rfl) pa_nil))) (pe_callB call_isi (by rfl) mis (by decide +kernel) (pa_cons (pv 1) (pa_cons (pe_bltn (v := .ty "list") (by rfl) mls (by decide +kernel) rfl) pa_nil))) (nomark _))
              (pw_or1 (pt_cmpR op_ne (pe_callB call_isi (by rfl) mis (by decide +kernel) (pa_cons (pv 0) (pa_cons (pe_bltn (v := .ty "tuple") (by rfl) mt (by decide +kernel) rfl) pa_nil))) (pe_callB call_isi (by rfl) mis (by decide +kernel) (pa_cons (pv 1) (pa_cons (pe_bltn (v := .ty "tuple") (by rfl) mt (by decide +kernel) rfl) pa_nil))) (nomark _)))))
            (pss_one (ps_ret pe_bl)) pss_nil)
          (pss_one (ps_ret (pe_and (pe_cmpR op_eq (pe_callB call_len_seq (by rfl) ml PySem.boot_len (pa_cons (pv 0) pa_nil)) (pe_callB call_len_seq (by rfl) ml PySem.boot_len (pa_cons (pv 1) pa_nil)) (nomark _))
            (pe_one (pe_callB (cr_all rfl) (by rfl) ma (by decide +kernel) (pa_cons (pe_lc (own := [("_law_m", 2), ("_law_t", 3)]) (g := gTup K 2 (gCons (gName 2) (gCons (gName 3) gNil))) (tt := tYes) (te := tCall (spSame n) [] E0 (tCons (tVar 2) (tCons (tVar 3) tNil))) rfl scSame.nd
              (RZ.pi_zipA (by rfl) mz (pa_cons (pv 0) (pa_cons (pv 1) pa_nil))) (blkOk_by (N := nSame) (sc := defScope sSame) (by decide +kernel))
              (fun _ _ _ _ _ => pg_tup rfl (pgs_cons (pg_name (i := 2) scSame.nd rfl (.inl rfl)) (pgs_cons (pg_name (i := 3) scSame.nd rfl (.inl rfl)) pgs_nil))) (fun _ _ _ _ _ => pts_nil)
              (fun _ _ _ _ _ => pe_call ih hr (by rfl) g F.kp b .nil pass0 (pa_cons (pv 2) (pa_cons (pv 3) pa_nil)))) pa_nil))))))) pss_nil)
        (pss_cons (ps_if (PW.pt (pw_or (pt_cmpR op_isN (pv 1) pe_non (nomark _)) (pw_or1 (pt_val (pe_callB call_isiT (by rfl) mis (by decide +kernel) (pa_cons (pv 1) (pa_cons (pe_tup (pa_cons (pe_bltn (v := .ty "str") (by rfl) mst (by decide +kernel) rfl) (pa_cons (pe_bltn (v := .ty "bool") (by rfl) mb (by decide +kernel) rfl) pa_nil))) pa_nil)))))))
          (pss_one (ps_ret (pe_and (pe_cmpR op_eq (pe_callB call_isi (by rfl) mis (by decide +kernel) (pa_cons (pv 0) (pa_cons (pe_bltn (v := .ty "bool") (by rfl) mb (by decide +kernel) rfl) pa_nil))) (pe_callB call_isi (by rfl) mis (by decide +kernel) (pa_cons (pv 1) (pa_cons (pe_bltn (v := .ty "bool") (by rfl) mb (by decide +kernel) rfl) pa_nil))) (nomark _)) (pe_one (pe_cmpR op_eq (pv 0) (pv 1) (nomark _)))))) pss_nil)
        (pss_one (ps_ret (pe_and (pe_callB call_isi (by rfl) mis (by decide +kernel) (pa_cons (pv 0) (pa_cons (pe_bltn (v := .ty "int") (by rfl) mi (by decide +kernel) rfl) pa_nil))) (pe_and (pe_not (pe_callB call_isi (by rfl) mis (by decide +kernel) (pa_cons (pv 0) (pa_cons (pe_bltn (v := .ty "bool") (by rfl) mb (by decide +kernel) rfl) pa_nil)))) (pe_one (pe_cmpR op_eq (pv 0) (pv 1) (nomark _)))))))), ?_⟩
      refine ⟨v, rfl, by show 2 ≤ sizeLine; decide, fun T nT => ?_⟩
      have s1 : Same H (upd H T (.tup [.ty "list", .ty "tuple"])) := same_upd nT
      have hu1 := hu.same s1
      have hv1 := hv.same s1
      have htT := (upd_same : upd H T (.tup [.ty "list", .ty "tuple"]) T = some (.tup [.ty "list", .ty "tuple"]))
      generalize upd H T (.tup [.ty "list", .ty "tuple"]) = H1 at *
      cases hu1 with
      | lst ha hs =>
        rename_i a xs ds
        cases hv1 with
        | lst hb ht =>
          rename_i b' ys
          obtain ⟨n', rfl⟩ : ∃ n', n = n' + 1 := by
            cases n with
            | zero => exact hfit.elim
            | succ n' => exact ⟨n', rfl⟩
          have hl1 := hs.length
          have hl2 := ht.length
          have hf1 : ds.length ≤ 1000 := hfit.1
          refine ⟨_, T, _, .type "list", _, _, rfl, htT, .cons (.ty _) (.cons (.ty _) .nil), .base (.lst hb), kitA (x := true) (y := false) (by decide +kernel) (by decide +kernel), _, rfl, ?_⟩
          refine ⟨.ref a, rfl, _, _, .type "list", _, true, rfl, .ty _, .base (.lst ha), kit_ty (by decide +kernel), .ref b', rfl, _, _, .type "list", _, true, rfl, .ty _, .base (.lst hb), kit_ty (by decide +kernel), rfl, _, rfl, iteNS rfl ?_⟩
          refine ⟨.ref a, rfl, _, _, .type "list", _, false, rfl, .ty _, .base (.lst ha), kit_ty (by decide +kernel), .ref b', rfl, _, _, .type "list", _, false, rfl, .ty _, .base (.lst hb), kit_ty (by decide +kernel), rfl, _, rfl, iteNS rfl ?_⟩
          refine ⟨.ref a, rfl, a, xs, rfl, .inl (SqL.of ha), .ref b', rfl, b', ys, rfl, .inl (SqL.of hb), rfl, _, rfl, ?_⟩
          rw [show decide (V.int (xs.length : Int) = V.int (ys.length : Int)) = true from decide_eq_true (by rw [hl1, hl2])]
          refine ⟨.ref a, rfl, .ref b', rfl, a, b', xs, ys, rfl, .inl ⟨SqL.of ha, SqL.of hb, fun D nD => ?_⟩⟩
          refine lc_it (walk_zip (xs := xs) (ys := ys) rfl) (fun i H3 => Same H1 H3 ∧ H3 D = some (.lst ((List.replicate i true).map V.bl))) ⟨same_upd nD, upd_same⟩ (fun i H3 _ h3 => ⟨SqL.of (h3.1 _ _ ha), SqL.of (h3.1 _ _ hb)⟩) ?_ ?_
          · rintro i x H3 H4 hi ⟨s3, d3⟩ ⟨T2, x1, x2, rfl, nT2, rfl, f1, f2⟩
            obtain ⟨d1, hd1, r1⟩ := hs.get f1
            obtain ⟨d2, hd2, r2⟩ := ht.get f2
            rw [hd1] at hd2
            cases hd2
            have sT : Same H3 (upd H3 T2 (.tup [x1, x2])) := same_upd nT2
            refine ⟨T2, _, rfl, SqT.of upd_same, rfl, _, _, rfl, _, _, rfl, rfl, rfl, x1, rfl, x2, rfl, x1, x2, d1, rfl, r1.same (Same.trans s3 sT), r2.same (Same.trans s3 sT), hfit.2 d1 (List.mem_of_getElem? hd1), fun H5 s5 => ?_⟩
            have d5 := s5 _ _ (sT _ _ d3)
            refine ⟨_, d5, ?_, fun c o e => ?_, ?_⟩
            · rw [List.length_map, List.length_replicate]
              exact small1000 (by omega)
            · rw [upd_ne (fun z => by subst z; rw [nD] at e; cases e)]
              exact s5 _ _ (sT _ _ (s3 _ _ e))
            · rw [upd_same, List.replicate_succ', List.map_append]
              rfl
          · rintro H3 ⟨s3, d3⟩
            refine ⟨D, _, rfl, SqL.of d3, ?_⟩
            rw [all_true]
            exact q _ (Same.trans s1 s3)
      | tup ha hs =>
        rename_i a xs ds
        cases hv1 with
        | tup hb ht =>
          rename_i b' ys
          obtain ⟨n', rfl⟩ : ∃ n', n = n' + 1 := by
            cases n with
            | zero => exact hfit.elim
            | succ n' => exact ⟨n', rfl⟩
          have hl1 := hs.length
          have hl2 := ht.length
          have hf1 : ds.length ≤ 1000 := hfit.1
          refine ⟨_, T, _, .type "tuple", _, _, rfl, htT, .cons (.ty _) (.cons (.ty _) .nil), .base (.tup hb), kitA (x := false) (y := true) (by decide +kernel) (by decide +kernel), _, rfl, ?_⟩
          refine ⟨.ref a, rfl, _, _, .type "tuple", _, false, rfl, .ty _, .base (.tup ha), kit_ty (by decide +kernel), .ref b', rfl, _, _, .type "tuple", _, false, rfl, .ty _, .base (.tup hb), kit_ty (by decide +kernel), rfl, _, rfl, iteNS rfl ?_⟩
          refine ⟨.ref a, rfl, _, _, .type "tuple", _, true, rfl, .ty _, .base (.tup ha), kit_ty (by decide +kernel), .ref b', rfl, _, _, .type "tuple", _, true, rfl, .ty _, .base (.tup hb), kit_ty (by decide +kernel), rfl, _, rfl, iteNS rfl ?_⟩
          refine ⟨.ref a, rfl, a, xs, rfl, .inr (SqT.of ha), .ref b', rfl, b', ys, rfl, .inr (SqT.of hb), rfl, _, rfl, ?_⟩
          rw [show decide (V.int (xs.length : Int) = V.int (ys.length : Int)) = true from decide_eq_true (by rw [hl1, hl2])]
          refine ⟨.ref a, rfl, .ref b', rfl, a, b', xs, ys, rfl, .inr ⟨SqT.of ha, SqT.of hb, fun D nD => ?_⟩⟩
          refine lc_it (walk_zipT (xs := xs) (ys := ys) rfl) (fun i H3 => Same H1 H3 ∧ H3 D = some (.lst ((List.replicate i true).map V.bl))) ⟨same_upd nD, upd_same⟩ (fun i H3 _ h3 => ⟨SqT.of (h3.1 _ _ ha), SqT.of (h3.1 _ _ hb)⟩) ?_ ?_
          · rintro i x H3 H4 hi ⟨s3, d3⟩ ⟨T2, x1, x2, rfl, nT2, rfl, f1, f2⟩
            obtain ⟨d1, hd1, r1⟩ := hs.get f1
            obtain ⟨d2, hd2, r2⟩ := ht.get f2
            rw [hd1] at hd2
            cases hd2
            have sT : Same H3 (upd H3 T2 (.tup [x1, x2])) := same_upd nT2
            refine ⟨T2, _, rfl, SqT.of upd_same, rfl, _, _, rfl, _, _, rfl, rfl, rfl, x1, rfl, x2, rfl, x1, x2, d1, rfl, r1.same (Same.trans s3 sT), r2.same (Same.trans s3 sT), hfit.2 d1 (List.mem_of_getElem? hd1), fun H5 s5 => ?_⟩
            have d5 := s5 _ _ (sT _ _ d3)
            refine ⟨_, d5, ?_, fun c o e => ?_, ?_⟩
            · rw [List.length_map, List.length_replicate]
              exact small1000 (by omega)
            · rw [upd_ne (fun z => by subst z; rw [nD] at e; cases e)]
              exact s5 _ _ (sT _ _ (s3 _ _ e))
            · rw [upd_same, List.replicate_succ', List.map_append]
              rfl
          · rintro H3 ⟨s3, d3⟩
            refine ⟨D, _, rfl, SqL.of d3, ?_⟩
            rw [all_true]
            exact q _ (Same.trans s1 s3)
      | non =>
        cases hv1
        refine ⟨_, T, _, .type "NoneType", _, _, rfl, htT, .cons (.ty _) (.cons (.ty _) .nil), .base .non, kitA (x := false) (y := false) (by decide +kernel) (by decide +kernel), _, rfl, ?_⟩
        refine ⟨_, rfl, rfl, _, rfl, ?_⟩
        refine ⟨_, rfl, _, _, .type "NoneType", _, false, rfl, .ty _, .base .non, kit_ty (by decide +kernel), _, rfl, _, _, .type "NoneType", _, false, rfl, .ty _, .base .non, kit_ty (by decide +kernel), rfl, _, rfl, ?_⟩
        refine ⟨_, rfl, _, rfl, rfl, ?_⟩
        exact q _ s1
      | bl x =>
        cases hv1
        refine ⟨_, T, _, .type "bool", _, _, rfl, htT, .cons (.ty _) (.cons (.ty _) .nil), .base (.bl _), kitA (x := false) (y := false) (by decide +kernel) (by decide +kernel), _, rfl, ?_⟩
        refine ⟨_, rfl, rfl, _, rfl, ?_⟩
        refine ⟨_, rfl, by show 2 ≤ sizeLine; decide, fun T2 nT2 => ?_⟩
        refine ⟨_, T2, _, .type "bool", _, _, rfl, upd_same, .cons (.ty _) (.cons (.ty _) .nil), .base (.bl _), kitA (x := false) (y := true) (by decide +kernel) (by decide +kernel), _, rfl, ?_⟩
        refine ⟨_, rfl, _, _, .type "bool", _, true, rfl, .ty _, .base (.bl _), kit_ty (by decide +kernel), _, rfl, _, _, .type "bool", _, true, rfl, .ty _, .base (.bl _), kit_ty (by decide +kernel), rfl, _, rfl, ?_⟩
        refine ⟨_, rfl, _, rfl, rfl, ?_⟩
        rw [decide_eq_true rfl]
        exact q _ (Same.trans s1 (same_upd nT2))
      | str x =>
        cases hv1
        refine ⟨_, T, _, .type "str", _, _, rfl, htT, .cons (.ty _) (.cons (.ty _) .nil), .base (.str _), kitA (x := false) (y := false) (by decide +kernel) (by decide +kernel), _, rfl, ?_⟩
        refine ⟨_, rfl, rfl, _, rfl, ?_⟩
        refine ⟨_, rfl, by show 2 ≤ sizeLine; decide, fun T2 nT2 => ?_⟩
        refine ⟨_, T2, _, .type "str", _, _, rfl, upd_same, .cons (.ty _) (.cons (.ty _) .nil), .base (.str _), kitA (x := true) (y := false) (by decide +kernel) (by decide +kernel), _, rfl, ?_⟩
        refine ⟨_, rfl, _, _, .type "str", _, false, rfl, .ty _, .base (.str _), kit_ty (by decide +kernel), _, rfl, _, _, .type "str", _, false, rfl, .ty _, .base (.str _), kit_ty (by decide +kernel), rfl, _, rfl, ?_⟩
        refine ⟨_, rfl, _, rfl, rfl, ?_⟩
        rw [decide_eq_true rfl]
        exact q _ (Same.trans s1 (same_upd nT2))
      | int x =>
        cases hv1
        refine ⟨_, T, _, .type "int", _, _, rfl, htT, .cons (.ty _) (.cons (.ty _) .nil), .base (.int _), kitA (x := false) (y := false) (by decide +kernel) (by decide +kernel), _, rfl, ?_⟩
        refine ⟨_, rfl, rfl, _, rfl, ?_⟩
        refine ⟨_, rfl, by show 2 ≤ sizeLine; decide, fun T2 nT2 => ?_⟩
        refine ⟨_, T2, _, .type "int", _, _, rfl, upd_same, .cons (.ty _) (.cons (.ty _) .nil), .base (.int _), kitA (x := false) (y := false) (by decide +kernel) (by decide +kernel), _, rfl, ?_⟩
        refine ⟨_, rfl, _, _, .type "int", _, true, rfl, .ty _, .base (.int _), kit_ty (by decide +kernel), _, rfl, ?_⟩
        refine ⟨_, rfl, _, _, .type "int", _, false, rfl, .ty _, .base (.int _), kit_ty (by decide +kernel), _, rfl, _, rfl, ?_⟩
        refine ⟨_, rfl, _, rfl, rfl, ?_⟩
        rw [decide_eq_true rfl]
        exact q _ (Same.trans s1 (same_upd nT2))
end
end Sg

namespace Sg
open PySem PySem.Spec PyProof.Rows L2
/-! ### the mathematics of settings -/
def stepM (acc : List (List Str)) (ws : List Str) : List (List Str) := acc.flatMap fun s => ws.map fun w => s ++ [w]
def settingsM (c : List (List Str)) : List (List Str) := c.foldl stepM [[]]
theorem stepM_len (acc : List (List Str)) (ws : List Str) : (stepM acc ws).length = acc.length * ws.length := by
  unfold stepM
  induction acc with
  | nil => simp
  | cons s r ih =>
    rw [List.flatMap_cons, List.length_append, ih, List.length_map, List.length_cons, Nat.succ_mul, Nat.add_comm]
theorem settingsM_succ (c : List (List Str)) (i : Nat) (h : i < c.length) : settingsM (c.take (i + 1)) = stepM (settingsM (c.take i)) c[i] := by
  unfold settingsM
  rw [List.take_succ_eq_append_getElem h, List.foldl_append]
  rfl
theorem settingsM_len {c : List (List Str)} (h : ∀ ws ∈ c, ws.length ≤ 4) : ∀ i, i ≤ c.length → (settingsM (c.take i)).length ≤ 4 ^ i
  | 0, _ => by simp [settingsM]
  | i + 1, hi => by
    rw [settingsM_succ c i hi, stepM_len, Nat.pow_succ]
    exact Nat.mul_le_mul (settingsM_len h i (by omega)) (h _ (List.getElem_mem hi))
theorem pow4 {i : Nat} (h : i ≤ 4) : 4 ^ i ≤ 256 := by
  have : i = 0 ∨ i = 1 ∨ i = 2 ∨ i = 3 ∨ i = 4 := by omega
  rcases this with rfl | rfl | rfl | rfl | rfl <;> decide
theorem pow43 {i : Nat} (h : i < 4) : 4 ^ i ≤ 64 := by
  have : i = 0 ∨ i = 1 ∨ i = 2 ∨ i = 3 := by omega
  rcases this with rfl | rfl | rfl | rfl <;> decide
theorem settingsM_each {c : List (List Str)} : ∀ i, i ≤ c.length → ∀ s ∈ settingsM (c.take i), s.length = i
  | 0, _, s, h => by
    have : s = [] := by simpa [settingsM] using h
    rw [this]
    rfl
  | i + 1, hi, s, h => by
    rw [settingsM_succ c i hi] at h
    unfold stepM at h
    obtain ⟨a, ha, hs⟩ := List.mem_flatMap.mp h
    obtain ⟨w, _, rfl⟩ := List.mem_map.mp hs
    rw [List.length_append, settingsM_each i (by omega) a ha]
    rfl
theorem flat_succ {α β : Type} (f : α → List β) (xs : List α) (i : Nat) (h : i < xs.length) : (xs.take (i + 1)).flatMap f = (xs.take i).flatMap f ++ f xs[i] := by
  rw [List.take_succ_eq_append_getElem h, List.flatMap_append, List.flatMap_cons, List.flatMap_nil, List.append_nil]
theorem flat_len_le (acc : List (List Str)) (ws : List Str) (i : Nat) : ((acc.take i).flatMap fun s => ws.map fun w => s ++ [w]).length ≤ acc.length * ws.length := by
  have e := stepM_len (acc.take i) ws
  unfold stepM at e
  rw [e]
  exact Nat.mul_le_mul (by rw [List.length_take]; exact Nat.min_le_right _ _) (Nat.le_refl _)
/-! ### loops, whatever their bodies are -/
theorem out_it {J : It} {n : Nat} {G : Hp → Prop} {Y : Nat → Hp → V → Hp → Prop} (w : Walk J n G Y) {B : (Hp → Prop) → Nat → V → Hp → Hp → Prop} {H1 : Hp} {Qd : Hp → Prop} (Pv : Nat → Hp → Prop) (h0 : Pv 0 H1) (hG : ∀ i H, i ≤ n → Pv i H → G H)
    (hs : ∀ i x H H', i < n → Pv i H → Y i H x H' → B (Pv (i + 1)) i x H H') (hd : ∀ H, Pv n H → Qd H) :
    ∃ W : Nat → Nat → Hp → Prop, (∃ m, W 0 m H1) ∧ ∀ i m H, W i m H → (J.stop i H ∧ Qd H) ∨ (J.go i H ∧ ∃ Nx : Hp → Prop, (∀ H', Nx H' → ∃ m', m' < m ∧ W (i + 1) m' H') ∧ ∀ x H', J.yld i H x H' → B Nx i x H H') := by
  refine ⟨fun i m H => m = n - i ∧ i ≤ n ∧ Pv i H, ⟨n, by simp, Nat.zero_le _, h0⟩, ?_⟩
  rintro i m H ⟨rfl, hi, p⟩
  have q := hG i H hi p
  by_cases hlt : i < n
  · exact .inr ⟨w.goes i H hlt q, Pv (i + 1), fun H' p' => ⟨n - (i + 1), by omega, rfl, hlt, p'⟩, fun x H' y => hs i x H H' hlt p (w.yields i H x H' hlt q y)⟩
  · have e : i = n := by omega
    subst e
    exact .inl ⟨w.stops H q, hd H p⟩
abbrev sSettingsIn : Stmt := topS 1
abbrev nSettingsIn : List Str := ["case", "settings", "words", "setting", "word"]
theorem scSettingsIn : FnScope nSettingsIn ["case"] (defScope sSettingsIn) := ⟨rfl, rfl, rfl, by decide +kernel, rfl, by decide +kernel, by decide +kernel⟩
def spSettings : Sp := fun vs H Q _ => ∃ (v : V) (c : List (List Str)), vs = [v] ∧ Rp H v (dC c) ∧ COk c ∧ ∀ (p : Addr) (H' : Hp), Same H H' → H p = none → Rp H' (.ref p) (.list ((settingsM c).map dW)) → Q (.ref p) H'
theorem RpAll.snoc {H : Hp} {D : Addr} {us : List V} {p : Addr} {ss : List (List Str)} {ws : List Str} (d : H D = some (.lst us)) (h : RpAll H us (ss.map dW)) (hp : H p = some (.tup (ws.map V.str))) : RpAll (upd H D (.lst (us ++ [.ref p]))) (us ++ [.ref p]) ((ss ++ [ws]).map dW) := by
  rw [List.map_append]
  have kT : KeepT H (upd H D (.lst (us ++ [.ref p]))) := keepT_lst d
  exact (h.keep kT (immAll_map imm_dW ss)).append (.cons ((Rp.dW_mk hp).keep kT (imm_dW ws)) .nil)
section
variable {P : Program} {w : World} {K : PySem.W.Frag} {mg : Str → Option Value} {base : Heap}
theorem ok_settings_in {f : Addr} {fd : FuncData} {k : Nat} (F : Fun K "settings_in" "settings_in" sSettingsIn f fd) : FnOk P w K mg base CX0 (k + 1) f fd ["case"] spSettings := by
  refine F.ok scSettingsIn (fun vs H Q E h => ?_) (fun cdv A outer s H vs Q E hr h => ?_)
  · obtain ⟨v, c, rfl, _⟩ := h
    rfl
  · obtain ⟨v, c, rfl, hv, hc, q⟩ := h
    refine ⟨_, pss_cons (ps_set (i := 1) scSettingsIn.nd rfl (.inl rfl) (pe_lst (pa_cons (pe_tup pa_nil) pa_nil)))
      (pss_cons (ps_for PassesOwn.never rfl (pi_tup (pv 0)) (pg_name (i := 2) scSettingsIn.nd rfl (.inr rfl))
        (pss_one (ps_setLc2 (i := 1) (own := [("setting", 3), ("word", 4)]) (vs1 := [4]) (g := gName 3) (tt := tYes) (wi1 := iTup K (tVar 2)) (g1 := gName 4) (tt1 := tYes) (te := tOp (rCatA K) (tVar 3) (tTup (tCons (tVar 4) tNil))) rfl scSettingsIn.nd rfl rfl (sw_true rfl rfl rfl (by decide +kernel)) (pi_list (pv 1)) (blkOk_by (N := nSettingsIn) (sc := defScope sSettingsIn) (by decide +kernel)) (by decide)
          (fun _ _ _ _ _ => pg_name (i := 3) scSettingsIn.nd rfl (.inl rfl)) (fun _ _ _ _ _ => pts_nil) (fun _ _ _ _ _ => pi_tup (pv 2)) (fun _ _ _ _ _ => pg_name (i := 4) scSettingsIn.nd rfl (.inl rfl)) (fun _ _ _ _ _ => pts_nil)
          (fun _ _ _ _ _ => pe_op op_catA (pv 3) (pe_tup (pa_cons (pv 4) pa_nil))))))
      (pss_one (ps_ret (pv 1)))), ?_⟩
    refine ⟨Nat.zero_le _, fun t0 nt0 => ⟨by show 1 ≤ sizeLine; decide, fun l0 nl0 => ?_⟩⟩
    have s0 : Same H (upd (upd H t0 (.tup [])) l0 (.lst [.ref t0])) := Same.trans (same_upd nt0) (same_upd nl0)
    have nl0H : H l0 = none := (same_upd nt0).free nl0
    have nlt0 : t0 ≠ l0 := fun e => by
      subst e
      rw [upd_same] at nl0
      cases nl0
    unfold dC at hv
    cases hv with
    | tup ha hs =>
      rename_i a vs
      have hlen := hs.length
      rw [List.length_map] at hlen
      refine ⟨.ref a, rfl, a, rfl, ⟨vs, SqT.of (s0 _ _ ha)⟩, ?_⟩
      refine for_it (walk_tup (xs := vs)) (fun i σ H3 => ∃ (y2 : Option V) (l : Addr) (us : List V), σ = [some (.ref a), some (.ref l), y2, none, none] ∧ Same H H3 ∧ H l = none ∧ H3 l = some (.lst us) ∧ RpAll H3 us ((settingsM (c.take i)).map dW)) ?_ ?_ ?_ ?_
      · refine ⟨none, l0, [.ref t0], rfl, s0, nl0H, upd_same, ?_⟩
        show RpAll _ [.ref t0] [dW []]
        refine .cons (Rp.dW_mk ?_) .nil
        rw [upd_ne nlt0, upd_same]
        rfl
      · rintro i σ H3 _ ⟨y2, l, us, rfl, s3, _⟩
        exact SqT.of (s3 _ _ ha)
      · rintro i x σ H4 H3 hi ⟨y2, l, us, rfl, s3, nl, d3, r3⟩ ⟨rfl, fx⟩
        obtain ⟨d, hd, hx⟩ := hs.get fx
        have hic : i < c.length := by omega
        rw [List.getElem?_map, List.getElem?_eq_getElem hic] at hd
        cases hd
        obtain ⟨b, rfl, hb⟩ := (hx.same s3).dW_inv
        have hlw : c[i].length ≤ 4 := (hc.2 _ (List.getElem_mem hic)).2.1
        have hS := settingsM_len (fun ws hw => (hc.2 ws hw).2.1) i (by omega)
        have h4 := pow43 (i := i) (by have := hc.1; omega)
        have hE := settingsM_each (c := c) i (by omega)
        generalize hss : settingsM (c.take i) = ss at *
        have hlu := r3.length
        rw [List.length_map] at hlu
        have hmul : ss.length * c[i].length ≤ 64 * 4 := Nat.mul_le_mul (by omega) hlw
        refine ⟨.ref l, rfl, l, rfl, ⟨us, SqL.of d3⟩, fun D nD => ?_⟩
        have nDH : H D = none := s3.free nD
        refine out_it (walk_list (xs := us)) (fun j H5 => ∃ ts : List V, Same H3 H5 ∧ H5 D = some (.lst ts) ∧ RpAll H5 ts (((ss.take j).flatMap fun s => c[i].map fun w => s ++ [w]).map dW)) ⟨[], same_upd nD, upd_same, .nil⟩ ?_ ?_ ?_
        · rintro j H5 _ ⟨ts, s5, _⟩
          exact SqL.of (s5 _ _ d3)
        · rintro j x H6 H5 hj ⟨ts, s5, d5, r5⟩ ⟨rfl, fy⟩
          obtain ⟨dd, hdd, hx2⟩ := r3.get fy
          have hjs : j < ss.length := by omega
          rw [List.getElem?_map, List.getElem?_eq_getElem hjs] at hdd
          cases hdd
          obtain ⟨g, rfl, hg⟩ := hx2.dW_inv
          refine ⟨rfl, .ref b, rfl, b, rfl, ⟨_, SqT.of (s5 _ _ hb)⟩, ?_⟩
          refine out_it (walk_tup (xs := c[i].map V.str)) (fun m H7 => ∃ ts : List V, Same H3 H7 ∧ H7 D = some (.lst ts) ∧ RpAll H7 ts ((((ss.take j).flatMap fun s => c[i].map fun w => s ++ [w]) ++ ((c[i].take m).map fun w => ss[j] ++ [w])).map dW)) ⟨ts, s5, d5, ?_⟩ ?_ ?_ ?_
          · rw [List.take_zero, List.map_nil, List.append_nil]
            exact r5
          · rintro m H7 _ ⟨ts, s7, _⟩
            exact SqT.of (s7 _ _ hb)
          · rintro m x H8 H7 hm ⟨ts, s7, d7, r7⟩ ⟨rfl, fz⟩
            rw [List.length_map] at hm
            rw [List.getElem?_map, List.getElem?_eq_getElem hm] at fz
            cases fz
            have hts := r7.length
            have hfl := flat_len_le ss c[i] j
            rw [List.length_map, List.length_append, List.length_map, List.length_take] at hts
            have e1 : (c[i].take (m + 1)).map (fun w => ss[j] ++ [w]) = (c[i].take m).map (fun w => ss[j] ++ [w]) ++ [ss[j] ++ [c[i][m]]] := by
              rw [List.take_succ_eq_append_getElem hm, List.map_append]
              rfl
            refine ⟨rfl, .ref g, rfl, .str c[i][m], rfl, by show 1 ≤ sizeLine; decide, fun p np => ?_⟩
            have sp : Same H7 (upd H7 p (.tup [.str c[i][m]])) := same_upd np
            refine ⟨g, p, ss[j].map V.str, [.str c[i][m]], rfl, rfl, SqT.of (sp _ _ (s7 _ _ hg)), SqT.of upd_same, ?_, fun e0 => ?_, (fun _ e => nomatch e), fun e0 _ => fun p2 np2 => ?_⟩
            · have hej := hE _ (List.getElem_mem hjs)
              have := hc.1
              rw [List.length_map, hej]
              exact sz _ (by simp; omega)
            · have hs0 : ss[j] = [] := by simpa using e0
              have d8 := sp _ _ d7
              refine ⟨ts, d8, small1000 (by omega), ts ++ [.ref p], fun a o e => ?_, upd_same, ?_⟩
              · rw [upd_ne (fun z => by subst z; rw [nD] at e; cases e)]
                exact sp _ _ (s7 _ _ e)
              · rw [e1, ← List.append_assoc]
                refine RpAll.snoc d8 (r7.same sp) ?_
                rw [hs0]
                exact upd_same
            · have sp2 := Same.trans sp (same_upd (o := .tup (ss[j].map V.str ++ [.str c[i][m]])) np2)
              have d8 := sp2 _ _ d7
              refine ⟨ts, d8, small1000 (by omega), ts ++ [.ref p2], fun a o e => ?_, upd_same, ?_⟩
              · rw [upd_ne (fun z => by subst z; rw [nD] at e; cases e)]
                exact sp2 _ _ (s7 _ _ e)
              · rw [e1, ← List.append_assoc]
                refine RpAll.snoc d8 (r7.same sp2) ?_
                rw [List.map_append]
                exact upd_same
          · rintro H7 ⟨ts, s7, d7, r7⟩
            refine ⟨ts, s7, d7, ?_⟩
            rw [flat_succ _ _ _ hjs]
            rw [List.length_map, List.take_length] at r7
            exact r7
        · rintro H5 ⟨ts, s5, d5, r5⟩
          refine ⟨some (.ref b), D, ts, rfl, Same.trans s3 s5, nDH, d5, ?_⟩
          rw [settingsM_succ c i hic, hss]
          rw [hlu, List.take_length] at r5
          exact r5
      · rintro σ H3 ⟨y2, l, us, rfl, s3, nl, d3, r3⟩
        rw [hlen, List.take_length] at r3
        exact ⟨.ref l, rfl, q _ _ s3 nl (.lst d3 r3)⟩
end
end Sg

namespace Sg
open PySem PySem.Spec PyProof.Rows L2
abbrev sWhole : Stmt := topS 2
abbrev nWhole : List Str := ["facets", "name", "words"]
theorem scWhole : FnScope nWhole ["facets"] (defScope sWhole) := ⟨rfl, rfl, rfl, by decide +kernel, rfl, by decide +kernel, by decide +kernel⟩
abbrev sBoth : Stmt := topS 5
abbrev nBoth : List Str := ["words", "others", "word"]
theorem scBoth : FnScope nBoth ["words", "others"] (defScope sBoth) := ⟨rfl, rfl, rfl, by decide +kernel, rfl, by decide +kernel, by decide +kernel⟩
abbrev sLSettings : Stmt := topS 14
abbrev nLSettings : List Str := ["_law_some", "_law_found", "_law_words", "_law_longer", "_law_ahead", "_law_word"]
theorem scLSettings : FnScope nLSettings ["_law_some"] (defScope sLSettings) := ⟨rfl, rfl, rfl, by decide +kernel, rfl, by decide +kernel, by decide +kernel⟩
/-- w is one of os -/
def isIn (os : List Str) (w : Str) : Bool := inV (V.str w) (os.map V.str)
theorem all_flat (os : List Str) : (os.map V.str).all flatV = true := by
  rw [List.all_eq_true]
  intro x hx
  obtain ⟨w, _, rfl⟩ := List.mem_map.mp hx
  rfl
theorem filter_succ {α : Type} (p : α → Bool) (xs : List α) (i : Nat) (h : i < xs.length) : (xs.take (i + 1)).filter p = (xs.take i).filter p ++ (if p xs[i] = true then [xs[i]] else []) := by
  rw [List.take_succ_eq_append_getElem h, List.filter_append]
  congr 1
  by_cases e : p xs[i] = true
  · rw [if_pos e, List.filter_cons_of_pos e]
    rfl
  · rw [if_neg e, List.filter_cons_of_neg e]
    rfl
/-- [w for w in ws if ..], ws a tuple of texts -/
theorem filt_lc {K : PySem.W.Frag} {a : Addr} {ws : List Str} (p : Str → Bool) {σ : L2.St} {vs : List Nat} {slot : Nat} {tt : TT} {H1 : Hp} {D : Addr} {Qd : Hp → Prop} (nD : H1 D = none) (ha : H1 a = some (.tup (ws.map V.str))) (hlen : ws.length ≤ 1000)
    (hw : ∀ x : V, wipe ((wipe σ vs).set slot (some x)) vs = wipe σ vs) (hv : ∀ x : V, ((wipe σ vs).set slot (some x))[slot]? = some (some x))
    (ht : ∀ (i : Nat) (h : i < ws.length) (H2 : Hp) (Q : Bool → Hp → Prop), Same H1 H2 → Q (p ws[i]) H2 → tt ((wipe σ vs).set slot (some (.str ws[i]))) H2 Q)
    (hd : ∀ H', Same H1 H' → H' D = some (.lst ((ws.filter p).map V.str)) → Qd H') :
    ∃ W : Nat → Nat → Hp → Prop, (∃ m, W 0 m (upd H1 D (.lst []))) ∧ ∀ i m H, W i m H →
      ((Itt K a).stop i H ∧ Qd H) ∨ ((Itt K a).go i H ∧ ∃ Nx : Hp → Prop, (∀ H', Nx H' → ∃ m', m' < m ∧ W (i + 1) m' H') ∧ ∀ x H', (Itt K a).yld i H x H' → gName slot x (wipe σ vs) H' fun σ2 H2 => wipe σ2 vs = wipe σ vs ∧ tt σ2 H2 fun b H3 =>
        if b = true then tVar slot σ2 H3 fun y H4 => ∃ acc, H4 D = some (.lst acc) ∧ acc.length < sizeLine ∧ Nx (upd H4 D (.lst (acc ++ [y]))) else Nx H3) := by
  refine lc_it (walk_tup (xs := ws.map V.str)) (fun i H3 => Same H1 H3 ∧ H3 D = some (.lst (((ws.take i).filter p).map V.str))) ⟨same_upd nD, upd_same⟩ (fun i H3 _ h3 => SqT.of (h3.1 _ _ ha)) ?_ ?_
  · rintro i x H4 H3 hi ⟨s3, d3⟩ ⟨rfl, fx⟩
    rw [List.length_map] at hi
    rw [List.getElem?_map, List.getElem?_eq_getElem hi] at fx
    cases fx
    refine ⟨hw _, ht i hi _ _ s3 ?_⟩
    have e := filter_succ p ws i hi
    by_cases hp : p ws[i] = true
    · rw [if_pos hp] at e ⊢
      refine ⟨_, hv _, _, d3, ?_, fun b o eb => ?_, ?_⟩
      · rw [List.length_map]
        have h1 : ((ws.take i).filter p).length ≤ (ws.take i).length := List.length_filter_le _ _
        rw [List.length_take] at h1
        exact small1000 (by omega)
      · rw [upd_ne (fun z => by subst z; rw [nD] at eb; cases eb)]
        exact s3 _ _ eb
      · rw [upd_same, e, List.map_append]
        rfl
    · rw [if_neg hp] at e ⊢
      refine ⟨s3, ?_⟩
      rw [e, List.append_nil]
      exact d3
  · rintro H3 ⟨s3, d3⟩
    rw [List.length_map, List.take_length] at d3
    exact hd _ s3 d3
section
variable {P : Program} {w : World} {K : PySem.W.Frag} {mg : Str → Option Value} {base : Heap}
/-! ### whole_case -/
def spWhole : Sp := fun vs H Q _ => ∃ (v : V) (fs : List (Str × List Str)), vs = [v] ∧ Rp H v (dF fs) ∧ fs.length ≤ 4 ∧ ∀ (v' : V) (H' : Hp), Same H H' → Rp H' v' (dC (fs.map (·.2))) → Q v' H'
theorem ok_whole {f : Addr} {fd : FuncData} {k : Nat} (F : Fun K "whole_case" "whole_case" sWhole f fd) (mt : mg "tuple" = none) : FnOk P w K mg base CX0 (k + 1) f fd ["facets"] spWhole := by
  refine F.ok scWhole (fun vs H Q E h => ?_) (fun cdv A outer s H vs Q E hr h => ?_)
  · obtain ⟨v, fs, rfl, _⟩ := h
    rfl
  · obtain ⟨v, fs, rfl, hv, hfl, q⟩ := h
    refine ⟨_, pss_one (ps_ret (pe_tupleOf (by rfl) mt (pe_lc (own := [("name", 1), ("words", 2)]) (g := gTup K 2 (gCons (gName 1) (gCons (gName 2) gNil))) (tt := tYes) (te := tVar 2) rfl scWhole.nd (pi_tup (pv 0)) (blkOk_by (N := nWhole) (sc := defScope sWhole) (by decide +kernel))
      (fun _ _ _ _ _ => pg_tup rfl (pgs_cons (pg_name (i := 1) scWhole.nd rfl (.inl rfl)) (pgs_cons (pg_name (i := 2) scWhole.nd rfl (.inl rfl)) pgs_nil))) (fun _ _ _ _ _ => pts_nil) (fun _ _ _ _ _ => pv 2)))), ?_⟩
    unfold dF at hv
    cases hv with
    | tup ha hs =>
      rename_i a vs
      have hlen := hs.length
      rw [List.length_map] at hlen
      refine ⟨.ref a, rfl, a, rfl, ⟨vs, SqT.of ha⟩, fun D nD => ?_⟩
      refine lc_it (walk_tup (xs := vs)) (fun i H3 => ∃ us : List V, Same H H3 ∧ H3 D = some (.lst us) ∧ RpAll H3 us (((fs.take i).map (·.2)).map dW)) ⟨[], same_upd nD, upd_same, .nil⟩ (fun i H3 _ h3 => let ⟨_, s3, _⟩ := h3; SqT.of (s3 _ _ ha)) ?_ ?_
      · rintro i x H4 H3 hi ⟨us, s3, d3, r3⟩ ⟨rfl, fx⟩
        obtain ⟨d, hd, hr0⟩ := hs.get fx
        have hif : i < fs.length := by omega
        rw [List.getElem?_map, List.getElem?_eq_getElem hif] at hd
        cases hd
        obtain ⟨b, u, rfl, hb, hu⟩ := (hr0.same s3).dP_inv
        obtain ⟨g, rfl, hg⟩ := hu.dW_inv
        refine ⟨b, _, rfl, SqT.of hb, rfl, _, _, rfl, _, _, rfl, rfl, rfl, _, rfl, _, d3, ?_, us ++ [.ref g], fun c o e => ?_, upd_same, ?_⟩
        · rw [r3.length, List.length_map, List.length_map, List.length_take]
          exact small1000 (by omega)
        · rw [upd_ne (fun z => by subst z; rw [nD] at e; cases e)]
          exact s3 _ _ e
        · rw [List.take_succ_eq_append_getElem hif, List.map_append]
          exact RpAll.snoc d3 r3 hg
      · rintro H3 ⟨us, s3, d3, r3⟩
        rw [hlen, List.take_length] at r3
        exact .inl ⟨D, _, rfl, SqL.of d3, fun z nz => q _ _ (Same.trans s3 (same_upd nz)) (.tup upd_same (r3.same (same_upd nz)))⟩
/-! ### words_in_both -/
def spBoth : Sp := fun vs H Q _ => ∃ (u v : V) (ws os : List Str), vs = [u, v] ∧ Rp H u (dW ws) ∧ Rp H v (dW os) ∧ ws.length ≤ 1000 ∧ ∀ (p : Addr) (H' : Hp), Same H H' → H' p = some (.tup ((ws.filter (isIn os)).map V.str)) → Q (.ref p) H'
theorem ok_both {f : Addr} {fd : FuncData} {k : Nat} (F : Fun K "words_in_both" "words_in_both" sBoth f fd) (mt : mg "tuple" = none) : FnOk P w K mg base CX0 (k + 1) f fd ["words", "others"] spBoth := by
  refine F.ok scBoth (fun vs H Q E h => ?_) (fun cdv A outer s H vs Q E hr h => ?_)
  · obtain ⟨u, v, ws, os, rfl, _⟩ := h
    rfl
  · obtain ⟨u, v, ws, os, rfl, hu, hv, hl, q⟩ := h
    refine ⟨_, pss_one (ps_ret (pe_tupleOf (by rfl) mt (pe_lc (own := [("word", 2)]) (g := gName 2) (tt := tTest (tOp (rIn K false) (tVar 2) (tVar 1))) (te := tVar 2) rfl scBoth.nd (pi_tup (pv 0)) (blkOk_by (N := nBoth) (sc := defScope sBoth) (by decide +kernel))
      (fun _ _ _ _ _ => pg_name (i := 2) scBoth.nd rfl (.inl rfl)) (fun _ _ _ _ _ => pts_one (pt_cmpR op_in_seq (pv 2) (pv 1) rfl)) (fun _ _ _ _ _ => pv 2)))), ?_⟩
    obtain ⟨a, rfl, ha⟩ := hu.dW_inv
    obtain ⟨b, rfl, hb⟩ := hv.dW_inv
    refine ⟨.ref a, rfl, a, rfl, ⟨_, SqT.of ha⟩, fun D nD => ?_⟩
    refine filt_lc (isIn os) nD ha hl (fun _ => rfl) (fun _ => rfl) (fun i h H2 Q s2 hq => ?_) (fun H3 s3 d3 => ?_)
    · exact ⟨_, rfl, .ref b, rfl, b, _, rfl, .inr (SqT.of (s2 _ _ hb)), rfl, all_flat os, _, rfl, hq⟩
    · exact .inl ⟨D, _, rfl, SqL.of d3, fun z nz => q _ _ (Same.trans s3 (same_upd nz)) upd_same⟩
/-! ### the law's settings -/
theorem ok_lsettings {f : Addr} {fd : FuncData} {k : Nat} (F : Fun K "_law_settings" "_law_settings" sLSettings f fd) : FnOk P w K mg base CX0 (k + 1) f fd ["_law_some"] spSettings := by
  refine F.ok scLSettings (fun vs H Q E h => ?_) (fun cdv A outer s H vs Q E hr h => ?_)
  · obtain ⟨v, c, rfl, _⟩ := h
    rfl
  · obtain ⟨v, c, rfl, hv, hc, q⟩ := h
    refine ⟨_, pss_cons (ps_set (i := 1) scLSettings.nd rfl (.inl rfl) (pe_lst (pa_cons (pe_tup pa_nil) pa_nil)))
      (pss_cons (ps_for PassesOwn.never rfl (pi_tup (pv 0)) (pg_name (i := 2) scLSettings.nd rfl (.inl rfl))
        (pss_cons (ps_set (i := 3) scLSettings.nd rfl (.inl rfl) (pe_lst pa_nil))
        (pss_cons (ps_for PassesOwn.never rfl (pi_list (pv 1)) (pg_name (i := 4) scLSettings.nd rfl (.inr rfl))
          (pss_one (ps_expr (pe_bm PySem.F.plainAttrs_list PySem.F.slot_list_extend PySem.F.type_list_extend mt_extend (pv 3) (pa_cons (pe_lc (own := [("_law_word", 5)]) (g := gName 5) (tt := tYes) (te := tOp (rCatA K) (tVar 4) (tTup (tCons (tVar 5) tNil))) rfl scLSettings.nd (pi_tup (pv 2)) (blkOk_by (N := nLSettings) (sc := defScope sLSettings) (by decide +kernel))
            (fun _ _ _ _ _ => pg_name (i := 5) scLSettings.nd rfl (.inl rfl)) (fun _ _ _ _ _ => pts_nil) (fun _ _ _ _ _ => pe_op op_catA (pv 4) (pe_tup (pa_cons (pv 5) pa_nil)))) pa_nil)))))
        (pss_one (ps_set (i := 1) scLSettings.nd rfl (.inl rfl) (pv 3))))))
      (pss_one (ps_ret (pv 1)))), ?_⟩
    refine ⟨Nat.zero_le _, fun t0 nt0 => ⟨by show 1 ≤ sizeLine; decide, fun l0 nl0 => ?_⟩⟩
    have s0 : Same H (upd (upd H t0 (.tup [])) l0 (.lst [.ref t0])) := Same.trans (same_upd nt0) (same_upd nl0)
    have nl0H : H l0 = none := (same_upd nt0).free nl0
    have nlt0 : t0 ≠ l0 := fun e => by
      subst e
      rw [upd_same] at nl0
      cases nl0
    unfold dC at hv
    cases hv with
    | tup ha hs =>
      rename_i a vs
      have hlen := hs.length
      rw [List.length_map] at hlen
      refine ⟨.ref a, rfl, a, rfl, ⟨vs, SqT.of (s0 _ _ ha)⟩, ?_⟩
      refine for_it (walk_tup (xs := vs)) (fun i σ H3 => ∃ (y2 y3 y4 : Option V) (l : Addr) (us : List V), σ = [some (.ref a), some (.ref l), y2, y3, y4, none] ∧ Same H H3 ∧ H l = none ∧ H3 l = some (.lst us) ∧ RpAll H3 us ((settingsM (c.take i)).map dW)) ?_ ?_ ?_ ?_
      · refine ⟨none, none, none, l0, [.ref t0], rfl, s0, nl0H, upd_same, ?_⟩
        show RpAll _ [.ref t0] [dW []]
        refine .cons (Rp.dW_mk ?_) .nil
        rw [upd_ne nlt0, upd_same]
        rfl
      · rintro i σ H3 _ ⟨y2, y3, y4, l, us, rfl, s3, _⟩
        exact SqT.of (s3 _ _ ha)
      · rintro i x σ H4 H3 hi ⟨y2, y3, y4, l, us, rfl, s3, nl, d3, r3⟩ ⟨rfl, fx⟩
        obtain ⟨d, hd, hx⟩ := hs.get fx
        have hic : i < c.length := by omega
        rw [List.getElem?_map, List.getElem?_eq_getElem hic] at hd
        cases hd
        obtain ⟨b, rfl, hb⟩ := (hx.same s3).dW_inv
        have hlw : c[i].length ≤ 4 := (hc.2 _ (List.getElem_mem hic)).2.1
        have hS := settingsM_len (fun ws hw => (hc.2 ws hw).2.1) i (by omega)
        have h4 := pow43 (i := i) (by have := hc.1; omega)
        have hE := settingsM_each (c := c) i (by omega)
        generalize hss : settingsM (c.take i) = ss at *
        have hlu := r3.length
        rw [List.length_map] at hlu
        have hmul : ss.length * c[i].length ≤ 64 * 4 := Nat.mul_le_mul (by omega) hlw
        refine ⟨Nat.zero_le _, fun lg nlg => ?_⟩
        have nlgH : H lg = none := s3.free nlg
        have sg : Same H3 (upd H3 lg (.lst [])) := same_upd nlg
        refine ⟨.ref l, rfl, l, rfl, ⟨us, SqL.of (sg _ _ d3)⟩, ?_⟩
        refine for_it (walk_list (xs := us)) (fun j σ H5 => ∃ (y4 : Option V) (ts : List V), σ = [some (.ref a), some (.ref l), some (.ref b), some (.ref lg), y4, none] ∧ Same H3 H5 ∧ H5 lg = some (.lst ts) ∧ RpAll H5 ts (((ss.take j).flatMap fun s => c[i].map fun w => s ++ [w]).map dW)) ⟨_, [], rfl, sg, upd_same, .nil⟩ ?_ ?_ ?_
        · rintro j σ H5 _ ⟨y4, ts, rfl, s5, _⟩
          exact SqL.of (s5 _ _ d3)
        · rintro j x σ H6 H5 hj ⟨y4, ts, rfl, s5, d5, r5⟩ ⟨rfl, fy⟩
          obtain ⟨dd, hdd, hx2⟩ := r3.get fy
          have hjs : j < ss.length := by omega
          rw [List.getElem?_map, List.getElem?_eq_getElem hjs] at hdd
          cases hdd
          obtain ⟨g, rfl, hg⟩ := hx2.dW_inv
          refine ⟨.ref lg, rfl, .inl ⟨rfl, _, SqL.of d5⟩, .ref b, rfl, b, rfl, ⟨_, SqT.of (s5 _ _ hb)⟩, fun D nD => ?_⟩
          have nD3 : H3 D = none := s5.free nD
          refine lc_it (walk_tup (xs := c[i].map V.str)) (fun m H7 => ∃ zs : List V, Same H5 H7 ∧ H7 D = some (.lst zs) ∧ RpAll H7 zs (((c[i].take m).map fun w => ss[j] ++ [w]).map dW)) ⟨[], same_upd nD, upd_same, .nil⟩ ?_ ?_ ?_
          · rintro m H7 _ ⟨zs, s7, _⟩
            exact SqT.of (s7 _ _ (s5 _ _ hb))
          · rintro m x H8 H7 hm ⟨zs, s7, d7, r7⟩ ⟨rfl, fz⟩
            rw [List.length_map] at hm
            rw [List.getElem?_map, List.getElem?_eq_getElem hm] at fz
            cases fz
            have hts := r7.length
            rw [List.length_map, List.length_map, List.length_take] at hts
            have e1 : (c[i].take (m + 1)).map (fun w => ss[j] ++ [w]) = (c[i].take m).map (fun w => ss[j] ++ [w]) ++ [ss[j] ++ [c[i][m]]] := by
              rw [List.take_succ_eq_append_getElem hm, List.map_append]
              rfl
            refine ⟨rfl, .ref g, rfl, .str c[i][m], rfl, by show 1 ≤ sizeLine; decide, fun p np => ?_⟩
            have sp : Same H7 (upd H7 p (.tup [.str c[i][m]])) := same_upd np
            refine ⟨g, p, ss[j].map V.str, [.str c[i][m]], rfl, rfl, SqT.of (sp _ _ (s7 _ _ (s5 _ _ hg))), SqT.of upd_same, ?_, fun e0 => ?_, (fun _ e => nomatch e), fun e0 _ => fun p2 np2 => ?_⟩
            · have hej := hE _ (List.getElem_mem hjs)
              have := hc.1
              rw [List.length_map, hej]
              exact sz _ (by simp; omega)
            · have hs0 : ss[j] = [] := by simpa using e0
              have d8 := sp _ _ d7
              refine ⟨zs, d8, small1000 (by omega), zs ++ [.ref p], fun a o e => ?_, upd_same, ?_⟩
              · rw [upd_ne (fun z => by subst z; rw [nD] at e; cases e)]
                exact sp _ _ (s7 _ _ e)
              · rw [e1]
                refine RpAll.snoc d8 (r7.same sp) ?_
                rw [hs0]
                exact upd_same
            · have sp2 := Same.trans sp (same_upd (o := .tup (ss[j].map V.str ++ [.str c[i][m]])) np2)
              have d8 := sp2 _ _ d7
              refine ⟨zs, d8, small1000 (by omega), zs ++ [.ref p2], fun a o e => ?_, upd_same, ?_⟩
              · rw [upd_ne (fun z => by subst z; rw [nD] at e; cases e)]
                exact sp2 _ _ (s7 _ _ e)
              · rw [e1]
                refine RpAll.snoc d8 (r7.same sp2) ?_
                rw [List.map_append]
                exact upd_same
          · rintro H7 ⟨zs, s7, d7, r7⟩
            rw [List.length_map, List.take_length] at r7
            have d8 := s7 _ _ d5
            have hz := r7.length
            have ht := r5.length
            have hfl := flat_len_le ss c[i] j
            rw [List.length_map, List.length_map] at hz
            rw [List.length_map] at ht
            have kT : KeepT H7 (upd H7 lg (.lst (ts ++ zs))) := keepT_lst d8
            refine ⟨lg, D, ts, zs, rfl, rfl, d8, d7, sz _ (by omega), some (.ref g), ts ++ zs, rfl, fun a o e => ?_, upd_same, ?_⟩
            · rw [upd_ne (fun z => by subst z; rw [nlg] at e; cases e)]
              exact s7 _ _ (s5 _ _ e)
            · rw [flat_succ _ _ _ hjs, List.map_append]
              exact ((r5.same s7).keep kT (immAll_map imm_dW _)).append (r7.keep kT (immAll_map imm_dW _))
        · rintro σ H5 ⟨y4, ts, rfl, s5, d5, r5⟩
          refine ⟨.ref lg, rfl, some (.ref b), some (.ref lg), y4, lg, ts, rfl, Same.trans s3 s5, nlgH, d5, ?_⟩
          rw [settingsM_succ c i hic, hss]
          rw [hlu, List.take_length] at r5
          exact r5
      · rintro σ H3 ⟨y2, y3, y4, l, us, rfl, s3, nl, d3, r3⟩
        rw [hlen, List.take_length] at r3
        exact ⟨.ref l, rfl, q _ _ s3 nl (.lst d3 r3)⟩
end
end Sg

namespace PySem
open Sem (wp)
open AutoSeq1 (wpAny_loadPart')
theorem sg_enumT (l : Addr) (its : Array Value) (n : Nat) (dct : Option Addr) (sl : Array (Option Value)) :
    Meets (Builtin.«enumerate.__new__» ⟨[.type "enumerate", .ref l], []⟩) (fun _ R s => s.heap.get? l = some { cls := .type "tuple", dict := dct, data := .seq its n, slots := sl } ∧
      R (.ok (.ret (.ref (s.heap.push { cls := .type "tuple_iterator", data := .fields #[.ref l, .int 0 0] }).objs.size)))
        { s with heap := (s.heap.push { cls := .type "tuple_iterator", data := .fields #[.ref l, .int 0 0] }).push { cls := .type "enumerate", data := .fields #[.none, .bool false, .ref s.heap.objs.size, rawInt 0, .none, .none] } }) := by
  refine .of_wp fun prog w A R s h => ?_
  obtain ⟨hp, g, d, tk, os⟩ := s
  obtain ⟨hl, h⟩ := h
  have hsub := sub_enumerate
  have hT : Heap.IsTuple (Shared.heap ⟨hp, g, d, tk, os⟩) l its := ⟨_, hl, rfl, n, rfl⟩
  wp_walk using wpAny_loadPart' hl
  refine wpAny_stack_any fun st => wpAny_pure ?_
  split
  · rename_i c _ _ _ _ _
    cases (c == Value.type "enumerate")
    · wp_walk using wpAny_loadPart' hl, wpAny_pyIter_tuple hT
      exact ⟨_, rfl, h⟩
    · wp_walk using wpAny_loadPart' hl, wpAny_pyIter_tuple hT
      exact ⟨_, rfl, h⟩
  · wp_walk using wpAny_loadPart' hl, wpAny_pyIter_tuple hT
    exact ⟨_, rfl, h⟩
section
variable {prog : Program} {w : World} {A : Around} {E : Value → Shared → Prop} {s : Shared}
theorem sg_call_enumT {l : Addr} {its : Array Value} {Q : Value → Shared → Prop} (hL : s.heap.IsTuple l its)
    (h : ∀ h', IsEnum h' (s.heap.objs.size + 1) s.heap.objs.size 0 .none → h'.IsTupleIter s.heap.objs.size l 0 → h'.objs.size = s.heap.objs.size + 2 →
      (∀ b o, s.heap.get? b = some o → h'.get? b = some o) → Q (.ref (s.heap.objs.size + 1)) { s with heap := h' }) :
    wpAny (model prog w) A (call (.type "enumerate") [.ref l]) Q E s := by
  obtain ⟨⟨c, dct, dt, sl⟩, hl, hc, n, hd⟩ := hL
  simp only at hc hd
  subst hc hd
  refine callType_new F.called_enumerate (by decide) (F.typeCall_enumerate_1 _) (F.newCall_enumerate_1 _) (fun obj => F.args_object_init_2 obj _) F.entry_enumerate_new (sg_enumT l its n dct sl) ⟨hl, ?_⟩
  have hz : (s.heap.push { cls := .type "tuple_iterator", data := .fields #[.ref l, .int 0 0] }).objs.size = s.heap.objs.size + 1 := Heap.size_push ..
  have he : IsEnum ((s.heap.push { cls := .type "tuple_iterator", data := .fields #[.ref l, .int 0 0] }).push { cls := .type "enumerate", data := .fields #[.none, .bool false, .ref s.heap.objs.size, rawInt 0, .none, .none] }) (s.heap.objs.size + 1) s.heap.objs.size 0 .none := by
    have e := Heap.get?_push_size (s.heap.push { cls := .type "tuple_iterator", data := .fields #[.ref l, .int 0 0] }) (o := { cls := .type "enumerate", data := .fields #[.none, .bool false, .ref s.heap.objs.size, rawInt 0, .none, .none] }) rfl
    rw [hz] at e
    exact e
  show _ ∧ _
  rw [hz]
  exact ⟨⟨_, he, rfl⟩, h _ he ⟨_, Heap.get?_push_of_some _ (Heap.get?_push_size _ rfl), rfl, rfl⟩ (by rw [Heap.size_push, hz]) fun b o x => Heap.get?_push_of_some _ (Heap.get?_push_of_some _ x)⟩
end
end PySem

namespace Sg
open PySem PySem.Spec PyProof.Rows L2
/-! ### enumerate(tuple) -/
def IteT (K : PySem.W.Frag) (a : Addr) : It :=
  ⟨fun i H => ∃ (xs : List V) (x : V), SqT K H a xs ∧ xs[i]? = some x,
    fun i H v H' => ∃ T x, v = .ref T ∧ H T = none ∧ H' = upd H T (.tup [.int (i : Nat), x]) ∧ ∀ xs, SqT K H a xs → xs[i]? = some x,
    fun i H => ∃ xs : List V, SqT K H a xs ∧ xs.length = i⟩
theorem apart {h : Heap} {a b : Addr} {o o' : Obj} (ha : h.get? a = some o) (hb : h.get? b = some o') (hc : o.cls ≠ o'.cls) : a ≠ b := fun e => by
  subst e
  rw [ha] at hb
  cases hb
  exact hc rfl
theorem turn_enumT {P : Program} {w : World} {K : PySem.W.Frag} {elts : List Expr} {kk : Nat} {tpos : Pos} (a e it : Addr) :
    Turn P w K (.Tuple elts kk tpos) (IteT K a) [e, it] e (fun i h => (∃ old, IsEnum h e it ((i : Nat) : Int) old) ∧ h.IsTupleIter it a i ∧ e ≠ it) where
  mem := by simp
  obj := fun i h st b hb => by
    obtain ⟨⟨old, he⟩, ⟨o, ho, hc, hd⟩, _⟩ := st
    rcases (show b = e ∨ b = it by simpa using hb) with z | z
    · rw [z]
      exact ⟨_, he, fun v q => nomatch q⟩
    · rw [z]
      exact ⟨o, ho, fun v q => by rw [hd] at q; cases q⟩
  keep := fun i h h' st k => by
    obtain ⟨⟨old, he⟩, hi, hne⟩ := st
    exact ⟨⟨old, k e (by simp) _ he⟩, hi.at fun o q => k it (by simp) o q, hne⟩
  item := by
    intro X hP hw hK hc i pins s σ H E I hf st hg
    subst hP hw hK
    obtain ⟨⟨old, he⟩, hit, hne⟩ := st
    obtain ⟨xs, x, hq, hx⟩ := hg
    obtain ⟨its, rv, p, hz⟩ := I.tuple hq
    obtain ⟨u, hu, ru⟩ := rv.get hx
    have hel : e < s.heap.objs.size := Heap.lt_size he
    have hil : it < s.heap.objs.size := by
      obtain ⟨_, q, _⟩ := hit
      exact Heap.lt_size q
    have hai : a ≠ it := by
      obtain ⟨o, ho, hco, _⟩ := p
      obtain ⟨o2, ho2, hco2, _⟩ := hit
      exact apart ho ho2 (by rw [hco, hco2]; decide)
    have hae : a ≠ e := by
      obtain ⟨o, ho, hco, _⟩ := p
      exact apart ho he (by rw [hco]; show Value.type "tuple" ≠ Value.type "enumerate"; decide)
    have hl : i < its.toArray.size := by
      rw [List.size_toArray]
      exact (List.getElem?_eq_some_iff.mp hu).1
    refine wpAny_pyNext_enum_itemD (Draws.tuple (A := X.A.in1) (show X.A.in1.handled = none from I.ok.hd hc) it a hai its.toArray) he ⟨hit, p⟩ hl hne (by simp; exact ⟨hne, fun z => hae z.symm⟩) fun x' h' tk hp ho hst hT hsz hk => ?_
    have hxu : x' = u := by
      have e1 : its.toArray[i]? = some x' := hp
      rw [List.getElem?_toArray, hu] at e1
      exact (Option.some.inj e1).symm
    subst hxu
    refine ⟨_, rfl, wpAny_letOwnedTupleGo_enum (s := { s with heap := h', toks := tk + 1 }) ho fun h'' he' sb => ?_⟩
    have hT2 : h''.get? s.heap.objs.size = some { cls := .type "tuple", data := .seq #[.int i tk, x'] } := (sb.2 _ (Nat.ne_of_gt hel)).trans hT
    have new : ObjOk X.prog X.w (upd H s.heap.objs.size (.tup [.int (i : Nat), x])) h'' s.heap.objs.size (.tup [.int (i : Nat), x]) :=
      ⟨by show 2 ≤ sizeLine; decide, [.int i tk, x'], .cons ⟨_, rfl⟩ (.cons ru .nil), ⟨_, hT2, rfl, _, rfl⟩⟩
    have I1 : Inv X pins σ (upd H s.heap.objs.size (.tup [.int (i : Nat), x])) { s with heap := h'', toks := tk + 1 } :=
      I.turnedNew (ch := [e, it]) (fun b ob hb q => (sb.2 b (fun z => hb (by simp [z]))).trans (hk b ob (fun z => hb (by simp [z])) (fun z => hb (by simp [z])) q)) hf (Nat.le_refl _) new
    refine ⟨.ref s.heap.objs.size, _, I1, rfl, ⟨_, x, rfl, I.hok.fresh (Nat.le_refl _), rfl, fun ys hy => by rw [I.tuple_inj hy hq]; exact hx⟩, ⟨⟨x', ?_⟩, hst.1.at fun o q => (sb.2 it (Ne.symm hne)).trans q, hne⟩, fun b hb => ?_⟩
    · have e1 : ((i + 1 : Nat) : Int) = (i : Int) + 1 := by omega
      rw [e1]
      exact he'
    · have hb' : b < s.heap.objs.size := by
        rcases (show b = e ∨ b = it by simpa using hb) with z | z
        · rw [z]
          exact hel
        · rw [z]
          exact hil
      rw [upd_ne (Nat.ne_of_lt hb')]
      exact (hf b hb).1
  done := by
    intro X hP hw hK hc i pins s σ H E I hf st hg
    subst hP hw hK
    obtain ⟨⟨old, he⟩, hit, hne⟩ := st
    obtain ⟨xs, hq, hx⟩ := hg
    obtain ⟨its, rv, p, hz⟩ := I.tuple hq
    obtain ⟨f0, f1, f2, f3, f4, f5⟩ := hf it (by simp)
    have hl := rv.length
    have hai : a ≠ it := by
      obtain ⟨o, ho, hco, _⟩ := p
      obtain ⟨o2, ho2, hco2, _⟩ := hit
      exact apart ho ho2 (by rw [hco, hco2]; decide)
    have hsz : its.toArray.size = i := by rw [List.size_toArray]; omega
    refine wpAny_pyNext_enum_endD (Draws.tuple (A := X.A.in1) (show X.A.in1.handled = none from I.ok.hd hc) it a hai its.toArray) he ⟨by rw [hsz]; exact hit, p⟩ fun h' eb => ⟨rfl, I.turned (t' := s.toks) (fun b o hb q => eb b o hb q) f0 f1 f3 f4 f5⟩
  self := fun A i s Q E st h => let ⟨⟨_, he⟩, _⟩ := st; wpAny_pyIter_enum he h
def iEnumT (K : PySem.W.Frag) (ta : TA) : TI := fun σ H R => ta σ H fun vs H1 => ∃ a xs, vs = [.ref a] ∧ SqT K H1 a xs ∧ R (IteT K a) H1
theorem pi_enumT {X : Cx} {e : Expr} {ta : TA} {p pos tpos : Pos} {elts : List Expr} {kk : Nat} (hg : Gl X "enumerate") (hm : X.mg "enumerate" = none) (ha : PA X [e] ta) (hs : starEach [e] X.env = [(false, eval e X.env)] := by rfl) :
    PI X (.Tuple elts kk tpos) (.Call (.Name "enumerate" p) [e] [] pos) (iEnumT X.K ta) := by
  refine ⟨fun pins s σ H R I h => ?_⟩
  refine Call_ (ld_blt I hg hm boot_enumerate (PyProof.Rows.callWith_type1 (thn (ha.run pos pins s σ H _ I h) fun us s1 ⟨vs, H1, I1, r1, q1⟩ => ?_) hs rfl))
  obtain ⟨a, xs, ex, hq, q⟩ := q1
  subst ex
  cases r1 with
  | cons r rr =>
    cases rr
    cases r
    obtain ⟨its, rv, p', hz⟩ := I1.tuple hq
    refine sg_call_enumT p' fun h' he hit hsz hk => wpAny_pyIter_enum he ?_
    have I2 : Inv X pins σ H1 { s1 with heap := h' } := I1.kept (t' := s1.toks) hk
    refine ⟨s1.heap.objs.size + 1, [s1.heap.objs.size + 1, s1.heap.objs.size], _, _, H1, rfl, I2, turn_enumT a (s1.heap.objs.size + 1) s1.heap.objs.size, ⟨⟨.none, he⟩, hit, Nat.succ_ne_self _⟩, fun b hb => ?_, q⟩
    have hle : s1.heap.objs.size ≤ b := by
      rcases (show b = s1.heap.objs.size + 1 ∨ b = s1.heap.objs.size by simpa using hb) with z | z
      · rw [z]
        exact Nat.le_add_right _ _
      · rw [z]
        exact Nat.le_refl _
    exact I1.fpOk hle (I1.hok.fresh hle)
theorem walk_enumT {K : PySem.W.Frag} {a : Addr} {xs : List V} : Walk (IteT K a) xs.length (fun H => SqT K H a xs) (YPair (fun i => some (.int (i : Nat))) (fun i => xs[i]?)) := by
  refine ⟨fun i _ hi q => ⟨xs, xs[i], q, by simp [hi]⟩, fun _ q => ⟨xs, q, rfl⟩, fun i H v H' _ q y => ?_⟩
  obtain ⟨T, x, h1, h2, h3, h4⟩ := y
  exact ⟨T, .int (i : Nat), x, h1, h2, h3, rfl, h4 xs q⟩
end Sg

namespace Sg
open PySem PySem.Spec PyProof.Rows L2
abbrev sCommon : Stmt := topS 3
abbrev nCommon : List Str := ["one", "other", "shared", "words", "others"]
theorem scCommon : FnScope nCommon ["one", "other"] (defScope sCommon) := ⟨rfl, rfl, rfl, by decide +kernel, rfl, by decide +kernel, by decide +kernel⟩
abbrev sWithout : Stmt := topS 4
abbrev nWithout : List Str := ["one", "other", "shared", "cases", "at", "words", "alone", "word"]
theorem scWithout : FnScope nWithout ["one", "other"] (defScope sWithout) := ⟨rfl, rfl, rfl, by decide +kernel, rfl, by decide +kernel, by decide +kernel⟩
abbrev sLCommon : Stmt := topS 16
abbrev nLCommon : List Str := ["_law_a_one", "_law_a_other", "_law_both", "_law_mine", "_law_its", "_law_word"]
theorem scLCommon : FnScope nLCommon ["_law_a_one", "_law_a_other"] (defScope sLCommon) := ⟨rfl, rfl, rfl, by decide +kernel, rfl, by decide +kernel, by decide +kernel⟩
abbrev sLWithout : Stmt := topS 17
abbrev nLWithout : List Str := ["_law_a_one", "_law_a_other", "_law_both", "_law_found", "_law_k", "_law_left", "_law_word"]
theorem scLWithout : FnScope nLWithout ["_law_a_one", "_law_a_other"] (defScope sLWithout) := ⟨rfl, rfl, rfl, by decide +kernel, rfl, by decide +kernel, by decide +kernel⟩
theorem hu65 {k : Nat} {A : Around} (r : Room k A) : A.units + 65 < cLine := by
  have := r.un
  omega
/-! ### the mathematics -/
def bothsM (c d : List (List Str)) : List (List Str) := List.zipWith (fun ws os => ws.filter (isIn os)) c d
def commonM (c d : List (List Str)) : Option (List (List Str)) := if (bothsM c d).any (·.isEmpty) = true then none else some (bothsM c d)
def dO : Option (List (List Str)) → PyData
  | none => .none
  | some b => dC b
def minusM (ws os : List Str) : List Str := ws.filter fun w => !isIn os w
def pieceM (b c d : List (List Str)) (i : Nat) : List (List (List Str)) := if (minusM (c.getD i []) (d.getD i [])).isEmpty = true then [] else [b.take i ++ minusM (c.getD i []) (d.getD i []) :: c.drop (i + 1)]
def withoutM (c d : List (List Str)) : List (List (List Str)) := match commonM c d with
  | none => [c]
  | some b => (List.range c.length).flatMap (pieceM b c d)
theorem boths_len (c d : List (List Str)) (h : c.length = d.length) : (bothsM c d).length = c.length := by
  unfold bothsM
  rw [List.length_zipWith]
  omega
theorem boths_wd {c d : List (List Str)} (hc : COk c) : ∀ ws ∈ bothsM c d, ws.length ≤ 4 ∧ ∀ x ∈ ws, Wd x := by
  intro ws hw
  unfold bothsM at hw
  obtain ⟨i, hi, e⟩ := List.getElem_of_mem hw
  rw [List.getElem_zipWith] at e
  subst e
  have hc1 := hc.2 _ (List.getElem_mem (show i < c.length by rw [List.length_zipWith] at hi; omega))
  exact ⟨Nat.le_trans (List.length_filter_le _ _) hc1.2.1, fun x hx => hc1.2.2 x (List.mem_filter.mp hx).1⟩
theorem zipTake (c d : List (List Str)) (i : Nat) (h1 : i < c.length) (h2 : i < d.length) : bothsM (c.take (i + 1)) (d.take (i + 1)) = bothsM (c.take i) (d.take i) ++ [c[i].filter (isIn d[i])] := by
  unfold bothsM
  rw [List.take_succ_eq_append_getElem h1, List.take_succ_eq_append_getElem h2, List.zipWith_append (by rw [List.length_take, List.length_take]; omega)]
  rfl
theorem any_empty (b : List (List Str)) : ((b.map dW).any fun z => PyData.eqv z (.tuple [])) = b.any (·.isEmpty) := by
  rw [List.any_map]
  congr 1
  funext ws
  show PyData.eqv (.tuple (ws.map .str)) (.tuple []) = ws.isEmpty
  rw [eqv_nil_t]
  cases ws <;> rfl
theorem range_flat {α : Type} (f : Nat → List α) (i : Nat) : (List.range (i + 1)).flatMap f = (List.range i).flatMap f ++ f i := by
  rw [List.range_succ, List.flatMap_append, List.flatMap_cons, List.flatMap_nil, List.append_nil]
theorem cut_take (xs : List V) (i : Nat) (h : i ≤ xs.length) : cutV xs none (some (i : Int)) = xs.take i := by
  unfold cutV
  rw [show HT.sIx xs.length 0 none = 0 from rfl, HT.sIx_nat, List.drop_zero, Nat.sub_zero, Nat.min_eq_left h]
theorem cut_drop (xs : List V) (i : Nat) (h : i ≤ xs.length) : cutV xs (some (i : Int)) none = xs.drop i := by
  unfold cutV
  rw [show HT.sIx xs.length xs.length none = xs.length from rfl, HT.sIx_nat, Nat.min_eq_left h, List.take_of_length_le (by rw [List.length_drop]; omega)]
/-! ### slices and sums of tuples, the address left open -/
theorem slA_use {K : PySem.W.Frag} {H : Hp} {a : Addr} {xs : List V} {lo hi : Option Int} {Q : VK} (ha : H a = some (.tup xs)) (h : ∀ r H', Same H H' → H' r = some (.tup (cutV xs lo hi)) → Q (.ref r) H') : rSlA K (.ref a) lo hi H Q := by
  refine ⟨a, xs, rfl, SqT.of ha, fun hw => h a H (Same.refl H) ?_, fun _ p np => h p _ (same_upd np) upd_same⟩
  unfold cutV
  rw [hw.1, hw.2, List.drop_zero, Nat.sub_zero, List.take_length]
  exact ha
theorem catA_use {K : PySem.W.Frag} {H : Hp} {a b : Addr} {xs ys : List V} {Q : VK} (ha : H a = some (.tup xs)) (hb : H b = some (.tup ys)) (hz : xs.length + ys.length ≤ 1000) (h : ∀ r H', Same H H' → H' r = some (.tup (xs ++ ys)) → Q (.ref r) H') : rCatA K (.ref a) (.ref b) H Q := by
  refine ⟨a, b, xs, ys, rfl, rfl, SqT.of ha, SqT.of hb, sz _ hz, fun e => h b H (Same.refl H) ?_, fun _ e => h a H (Same.refl H) ?_, fun _ _ p np => h p _ (same_upd np) upd_same⟩
  · rw [e, List.nil_append]
    exact hb
  · rw [e, List.append_nil]
    exact ha
section
variable {P : Program} {w : World} {K : PySem.W.Frag} {mg : Str → Option Value} {base : Heap}
def spCommon : Sp := fun vs H Q _ => ∃ (u v : V) (c d : List (List Str)), vs = [u, v] ∧ Rp H u (dC c) ∧ Rp H v (dC d) ∧ COk c ∧ c.length = d.length ∧ ∀ (r : V) (H' : Hp), Same H H' → Rp H' r (dO (commonM c d)) → Q r H'
/-- the test () in shared, and what comes of it -/
theorem in_common {c d : List (List Str)} {p : Addr} {H : Hp} {Q : VK} {tt : TE} (hc : COk c) (hp : Rp H (.ref p) (dC (bothsM c d))) (h : ∀ (r : V) (H' : Hp), Same H H' → Rp H' r (dO (commonM c d)) → Q r H') (e : Addr) (ne : H e = none) :
    rInTD K (.ref e) (.ref p) (upd H e (.tup [])) fun x H' => ∃ k, x = .bl k ∧ if k = true then Q .non H' else ∃ v, some (some (V.ref p)) = some (some v) ∧ Q v H' := by
  have s1 : Same H (upd H e (.tup [])) := same_upd ne
  refine ⟨.tuple [], (bothsM c d).map dW, Rp.dp (.tup upd_same .nil), (hp.same s1).dp, rfl, shaped_of (lay_dC fun ws hw => (boths_wd hc ws hw).2) (Nat.le_trans (dep_dC _) (by decide)), _, rfl, ?_⟩
  rw [any_empty]
  have hcm : commonM c d = if (bothsM c d).any (·.isEmpty) = true then none else some (bothsM c d) := rfl
  refine ite2 (fun z => ?_) (fun z => ?_)
  · rw [if_pos z] at hcm
    exact h _ _ s1 (by rw [hcm]; exact .non)
  · rw [if_neg z] at hcm
    exact ⟨_, rfl, h _ _ s1 (by rw [hcm]; exact hp.same s1)⟩
theorem ok_common {f fB : Addr} {fd fdB : FuncData} {k : Nat} (F : Fun K "common" "common" sCommon f fd) (FB : Fun K "words_in_both" "words_in_both" sBoth fB fdB) (bB : Binds K fdB ["words", "others"] []) (gB : mg "words_in_both" = some (.ref fB)) (mt : mg "tuple" = none) (mz : mg "zip" = none) : FnOk P w K mg base CX0 (k + 2) f fd ["one", "other"] spCommon := by
  have GB : FnOk P w K mg base CX0 (k + 1) fB fdB ["words", "others"] spBoth := ok_both FB mt
  refine F.ok scCommon (fun vs H Q E h => ?_) (fun cdv A outer s H vs Q E hr h => ?_)
  · obtain ⟨u, v, c, d, rfl, _⟩ := h
    rfl
  · obtain ⟨u, v, c, d, rfl, hu, hv, hc, hcd, q⟩ := h
    refine ⟨_, pss_cons (ps_set (i := 2) scCommon.nd rfl (.inl rfl) (pe_tupleOf (by rfl) mt (pe_lc (own := [("words", 3), ("others", 4)]) (g := gTup K 2 (gCons (gName 3) (gCons (gName 4) gNil))) (tt := tYes) (te := tCall spBoth [] E0 (tCons (tVar 3) (tCons (tVar 4) tNil))) rfl scCommon.nd (RZ.pi_zipA (by rfl) mz (pa_cons (pv 0) (pa_cons (pv 1) pa_nil))) (blkOk_by (N := nCommon) (sc := defScope sCommon) (by decide +kernel))
        (fun _ _ _ _ _ => pg_tup rfl (pgs_cons (pg_name (i := 3) scCommon.nd rfl (.inl rfl)) (pgs_cons (pg_name (i := 4) scCommon.nd rfl (.inl rfl)) pgs_nil))) (fun _ _ _ _ _ => pts_nil) (fun _ _ _ _ _ => pe_call GB hr (by rfl) gB FB.kp bB .nil pass0 (pa_cons (pv 3) (pa_cons (pv 4) pa_nil))))))
      (pss_one (ps_ret (pe_ifExp (pt_cmpR (op_inTD (hu65 hr)) (pe_tup pa_nil) (pv 2) rfl) pe_non (pv 2)))), ?_⟩
    unfold dC at hu hv
    cases hu with
    | tup ha hs =>
      rename_i a xs
      cases hv with
      | tup hb ht =>
        rename_i b ys
        have l1 := hs.length
        have l2 := ht.length
        rw [List.length_map] at l1 l2
        refine ⟨.ref a, rfl, .ref b, rfl, a, b, xs, ys, rfl, .inr ⟨SqT.of ha, SqT.of hb, fun D nD => ?_⟩⟩
        refine lc_it (walk_zipT (xs := xs) (ys := ys) rfl) (fun i H3 => ∃ us : List V, Same H H3 ∧ H3 D = some (.lst us) ∧ RpAll H3 us ((bothsM (c.take i) (d.take i)).map dW)) ⟨[], same_upd nD, upd_same, .nil⟩ (fun i H3 _ h3 => let ⟨_, s3, _⟩ := h3; ⟨SqT.of (s3 _ _ ha), SqT.of (s3 _ _ hb)⟩) ?_ ?_
        · rintro i x H3 H4 hi ⟨us, s3, d3, r3⟩ ⟨T2, x1, x2, rfl, nT2, rfl, f1, f2⟩
          have hi1 : i < c.length := by omega
          have hi2 : i < d.length := by omega
          obtain ⟨d1, hd1, r1⟩ := hs.get f1
          obtain ⟨d2, hd2, r2⟩ := ht.get f2
          rw [List.getElem?_map, List.getElem?_eq_getElem hi1] at hd1
          rw [List.getElem?_map, List.getElem?_eq_getElem hi2] at hd2
          cases hd1
          cases hd2
          have sT : Same H3 (upd H3 T2 (.tup [x1, x2])) := same_upd nT2
          have hlw : c[i].length ≤ 4 := (hc.2 _ (List.getElem_mem hi1)).2.1
          refine ⟨T2, _, rfl, SqT.of upd_same, rfl, _, _, rfl, _, _, rfl, rfl, rfl, x1, rfl, x2, rfl, x1, x2, c[i], d[i], rfl, r1.same (Same.trans s3 sT), r2.same (Same.trans s3 sT), by omega, fun p H5 s5 e5 => ?_⟩
          have s35 := Same.trans sT s5
          have d5 := s35 _ _ d3
          have hlu := r3.length
          rw [List.length_map, boths_len _ _ (by rw [List.length_take, List.length_take]; omega), List.length_take] at hlu
          refine ⟨us, d5, ?_, us ++ [.ref p], fun z o e => ?_, upd_same, ?_⟩
          · have := hc.1
            exact small1000 (by omega)
          · rw [upd_ne (fun z => by subst z; rw [nD] at e; cases e)]
            exact s35 _ _ (s3 _ _ e)
          · rw [zipTake c d i hi1 hi2]
            exact RpAll.snoc d5 (r3.same s35) e5
        · rintro H3 ⟨us, s3, d3, r3⟩
          rw [show min xs.length ys.length = c.length by omega, List.take_length, hcd, List.take_length] at r3
          refine .inl ⟨D, _, rfl, SqL.of d3, fun p np => ?_⟩
          have s4 := Same.trans s3 (same_upd (o := .tup us) np)
          refine ⟨Nat.zero_le _, fun e ne => ⟨.ref p, rfl, ?_⟩⟩
          exact in_common (tt := tVar 2) hc (.tup upd_same (r3.same (same_upd np))) (fun r H' s' h' => q r H' (Same.trans s4 s') h') e ne
theorem ok_lcommon {f : Addr} {fd : FuncData} {k : Nat} (F : Fun K "_law_common" "_law_common" sLCommon f fd) (mt : mg "tuple" = none) (mz : mg "zip" = none) : FnOk P w K mg base CX0 (k + 1) f fd ["_law_a_one", "_law_a_other"] spCommon := by
  refine F.ok scLCommon (fun vs H Q E h => ?_) (fun cdv A outer s H vs Q E hr h => ?_)
  · obtain ⟨u, v, c, d, rfl, _⟩ := h
    rfl
  · obtain ⟨u, v, c, d, rfl, hu, hv, hc, hcd, q⟩ := h
    refine ⟨_, pss_cons (ps_set (i := 2) scLCommon.nd rfl (.inl rfl) (pe_tupleOf (by rfl) mt (pe_lc (own := [("_law_mine", 3), ("_law_its", 4)]) (g := gTup K 2 (gCons (gName 3) (gCons (gName 4) gNil))) (tt := tYes) (te := tThen (tLc (iTup K (tVar 3)) (gName 5) (tTest (tOp (rIn K false) (tVar 5) (tVar 4))) (tVar 5) [5]) (kTup K)) rfl scLCommon.nd (RZ.pi_zipA (by rfl) mz (pa_cons (pv 0) (pa_cons (pv 1) pa_nil))) (blkOk_by (N := nLCommon) (sc := defScope sLCommon) (by decide +kernel))
        (fun _ _ _ _ _ => pg_tup rfl (pgs_cons (pg_name (i := 3) scLCommon.nd rfl (.inl rfl)) (pgs_cons (pg_name (i := 4) scLCommon.nd rfl (.inr rfl)) pgs_nil))) (fun _ _ _ _ _ => pts_nil)
        (fun _ _ _ _ _ => pe_tupleOf (by rfl) mt (pe_lc (own := [("_law_word", 5)]) (g := gName 5) (tt := tTest (tOp (rIn K false) (tVar 5) (tVar 4))) (te := tVar 5) rfl scLCommon.nd (pi_tup (pv 3)) (blkOk_by (N := nLCommon) (sc := { kind := .function, names := [(".0", .local), ("_law_mine", .local), ("_law_its", .cell), ("tuple", .globalImplicit)], isGenerator := false, isCoroutine := false }) (by decide +kernel))
          (fun _ _ _ _ _ => pg_name (i := 5) scLCommon.nd rfl (.inl rfl)) (fun _ _ _ _ _ => pts_one (pt_cmpR op_in_seq (pv 5) (pv 4) rfl)) (fun _ _ _ _ _ => pv 5))))))
      (pss_one (ps_ret (pe_ifExp (pt_cmpR (op_inTD (hu65 hr)) (pe_tup pa_nil) (pv 2) rfl) pe_non (pv 2)))), ?_⟩
    unfold dC at hu hv
    cases hu with
    | tup ha hs =>
      rename_i a xs
      cases hv with
      | tup hb ht =>
        rename_i b ys
        have l1 := hs.length
        have l2 := ht.length
        rw [List.length_map] at l1 l2
        refine ⟨.ref a, rfl, .ref b, rfl, a, b, xs, ys, rfl, .inr ⟨SqT.of ha, SqT.of hb, fun D nD => ?_⟩⟩
        refine lc_it (walk_zipT (xs := xs) (ys := ys) rfl) (fun i H3 => ∃ us : List V, Same H H3 ∧ H3 D = some (.lst us) ∧ RpAll H3 us ((bothsM (c.take i) (d.take i)).map dW)) ⟨[], same_upd nD, upd_same, .nil⟩ (fun i H3 _ h3 => let ⟨_, s3, _⟩ := h3; ⟨SqT.of (s3 _ _ ha), SqT.of (s3 _ _ hb)⟩) ?_ ?_
        · rintro i x H3 H4 hi ⟨us, s3, d3, r3⟩ ⟨T2, x1, x2, rfl, nT2, rfl, f1, f2⟩
          have hi1 : i < c.length := by omega
          have hi2 : i < d.length := by omega
          obtain ⟨d1, hd1, r1⟩ := hs.get f1
          obtain ⟨d2, hd2, r2⟩ := ht.get f2
          rw [List.getElem?_map, List.getElem?_eq_getElem hi1] at hd1
          rw [List.getElem?_map, List.getElem?_eq_getElem hi2] at hd2
          cases hd1
          cases hd2
          have sT : Same H3 (upd H3 T2 (.tup [x1, x2])) := same_upd nT2
          obtain ⟨g1, rfl, hg1⟩ := (r1.same (Same.trans s3 sT)).dW_inv
          obtain ⟨g2, rfl, hg2⟩ := (r2.same (Same.trans s3 sT)).dW_inv
          have hlw : c[i].length ≤ 4 := (hc.2 _ (List.getElem_mem hi1)).2.1
          refine ⟨T2, _, rfl, SqT.of upd_same, rfl, _, _, rfl, _, _, rfl, rfl, rfl, .ref g1, rfl, g1, rfl, ⟨_, SqT.of hg1⟩, fun D2 nD2 => ?_⟩
          refine filt_lc (isIn d[i]) nD2 hg1 (by omega) (fun _ => rfl) (fun _ => rfl) (fun i h H2 Q s2 hq => ?_) (fun H5 s5 d5' => ?_)
          · exact ⟨_, rfl, .ref g2, rfl, g2, _, rfl, .inr (SqT.of (s2 _ _ hg2)), rfl, all_flat _, _, rfl, hq⟩
          · refine .inl ⟨D2, _, rfl, SqL.of d5', fun p np => ?_⟩
            have s35 := Same.trans (Same.trans sT s5) (same_upd (o := .tup ((c[i].filter (isIn d[i])).map V.str)) np)
            have d5 := s35 _ _ d3
            have hlu := r3.length
            rw [List.length_map, boths_len _ _ (by rw [List.length_take, List.length_take]; omega), List.length_take] at hlu
            refine ⟨us, d5, ?_, us ++ [.ref p], fun z o e => ?_, upd_same, ?_⟩
            · have := hc.1
              exact small1000 (by omega)
            · rw [upd_ne (fun z => by subst z; rw [nD] at e; cases e)]
              exact s35 _ _ (s3 _ _ e)
            · rw [zipTake c d i hi1 hi2]
              exact RpAll.snoc d5 (r3.same s35) upd_same
        · rintro H3 ⟨us, s3, d3, r3⟩
          rw [show min xs.length ys.length = c.length by omega, List.take_length, hcd, List.take_length] at r3
          refine .inl ⟨D, _, rfl, SqL.of d3, fun p np => ?_⟩
          have s4 := Same.trans s3 (same_upd (o := .tup us) np)
          refine ⟨Nat.zero_le _, fun e ne => ⟨.ref p, rfl, ?_⟩⟩
          exact in_common (tt := tVar 2) hc (.tup upd_same (r3.same (same_upd np))) (fun r H' s' h' => q r H' (Same.trans s4 s') h') e ne
end
end Sg

namespace Sg
open PySem PySem.Spec PyProof.Rows L2
def spWithout : Sp := fun vs H Q _ => ∃ (u v : V) (c d : List (List Str)), vs = [u, v] ∧ Rp H u (dC c) ∧ Rp H v (dC d) ∧ COk c ∧ c.length = d.length ∧ ∀ (p : Addr) (H' : Hp), Same H H' → H p = none → Rp H' (.ref p) (.list ((withoutM c d).map dC)) → Q (.ref p) H'
theorem getD_at {xs : List (List Str)} {i : Nat} (h : i < xs.length) : xs.getD i [] = xs[i] := by
  rw [List.getD, List.getElem?_eq_getElem h]
  rfl
theorem minus_wd {c d : List (List Str)} (hc : COk c) (i : Nat) (hi : i < c.length) : (minusM c[i] (d.getD i [])).length ≤ 4 ∧ ∀ x ∈ minusM c[i] (d.getD i []), Wd x := by
  have h := hc.2 _ (List.getElem_mem hi)
  exact ⟨Nat.le_trans (List.length_filter_le _ _) h.2.1, fun x hx => h.2.2 x (List.mem_filter.mp hx).1⟩
theorem piece_eq (b c d : List (List Str)) (i : Nat) (hi : i < c.length) (hd : i < d.length) : pieceM b c d i = if (minusM c[i] d[i]).isEmpty = true then [] else [b.take i ++ minusM c[i] d[i] :: c.drop (i + 1)] := by
  unfold pieceM
  rw [getD_at hi, getD_at hd]
theorem pieces_len (b c d : List (List Str)) : ∀ i, ((List.range i).flatMap (pieceM b c d)).length ≤ i
  | 0 => Nat.le_refl _
  | i + 1 => by
    rw [range_flat, List.length_append]
    have h1 := pieces_len b c d i
    have h2 : (pieceM b c d i).length ≤ 1 := by
      unfold pieceM
      split
      · exact Nat.zero_le _
      · exact Nat.le_refl _
    omega
theorem RpAll.snocC {H : Hp} {D p : Addr} {us xs : List V} {cs : List (List (List Str))} {c : List (List Str)} (d : H D = some (.lst us)) (h : RpAll H us (cs.map dC)) (hp : H p = some (.tup xs)) (hx : RpAll H xs (c.map dW)) : RpAll (upd H D (.lst (us ++ [.ref p]))) (us ++ [.ref p]) ((cs ++ [c]).map dC) := by
  rw [List.map_append]
  have kT : KeepT H (upd H D (.lst (us ++ [.ref p]))) := keepT_lst d
  exact (h.keep kT (immAll_map imm_dC cs)).append (.cons ((show Rp H (.ref p) (dC c) from .tup hp hx).keep kT (imm_dC c)) .nil)
theorem RpAll.piece {H : Hp} {xs ys : List V} {al : Addr} {b c : List (List Str)} {m : List Str} (i : Nat) (hb : RpAll H xs (b.map dW)) (hc : RpAll H ys (c.map dW)) (hm : H al = some (.tup (m.map V.str))) :
    RpAll H (xs.take i ++ [.ref al] ++ ys.drop (i + 1)) ((b.take i ++ m :: c.drop (i + 1)).map dW) := by
  rw [List.map_append, List.map_cons, List.map_take, List.map_drop, List.append_assoc]
  exact (hb.take i).append (.cons (Rp.dW_mk hm) (hc.drop (i + 1)))
section
variable {P : Program} {w : World} {K : PySem.W.Frag} {mg : Str → Option Value} {base : Heap}
theorem ok_without {f fC fB : Addr} {fd fdC fdB : FuncData} {k : Nat} (F : Fun K "without" "without" sWithout f fd) (FC : Fun K "common" "common" sCommon fC fdC) (bC : Binds K fdC ["one", "other"] []) (gC : mg "common" = some (.ref fC))
    (FB : Fun K "words_in_both" "words_in_both" sBoth fB fdB) (bB : Binds K fdB ["words", "others"] []) (gB : mg "words_in_both" = some (.ref fB)) (mt : mg "tuple" = none) (mz : mg "zip" = none) (me : mg "enumerate" = none) : FnOk P w K mg base CX0 (k + 3) f fd ["one", "other"] spWithout := by
  have GC : FnOk P w K mg base CX0 (k + 2) fC fdC ["one", "other"] spCommon := ok_common FC FB bB gB mt mz
  refine F.ok scWithout (fun vs H Q E h => ?_) (fun cdv A outer s H vs Q E hr h => ?_)
  · obtain ⟨u, v, c, d, rfl, _⟩ := h
    rfl
  · obtain ⟨u, v, c, d, rfl, hu, hv, hc, hcd, q⟩ := h
    refine ⟨_, pss_cons (ps_set (i := 2) scWithout.nd rfl (.inl rfl) (pe_call GC hr (by rfl) gC FC.kp bC .nil pass0 (pa_cons (pv 0) (pa_cons (pv 1) pa_nil))))
      (pss_cons (ps_if (pt_cmpR op_isN (pv 2) pe_non (nomark _)) (pss_one (ps_ret (pe_lst (pa_cons (pv 0) pa_nil)))) pss_nil)
      (pss_cons (ps_set (i := 3) scWithout.nd rfl (.inl rfl) (pe_lst pa_nil))
      (pss_cons (ps_for PassesOwn.never rfl (pi_enumT (by rfl) me (pa_cons (pv 0) pa_nil)) (pg_tup rfl (pgs_cons (pg_name (i := 4) scWithout.nd rfl (.inr rfl)) (pgs_cons (pg_name (i := 5) scWithout.nd rfl (.inl rfl)) pgs_nil)))
        (pss_cons (ps_set (i := 6) scWithout.nd rfl (.inl rfl) (pe_tupleOf (by rfl) mt (pe_lc (own := [("word", 7)]) (g := gName 7) (tt := tTest (tOp (rIn K true) (tVar 7) (tOp (rIxT K) (tVar 1) (tVar 4)))) (te := tVar 7) rfl scWithout.nd (pi_tup (pv 5)) (blkOk_by (N := nWithout) (sc := defScope sWithout) (by decide +kernel))
            (fun _ _ _ _ _ => pg_name (i := 7) scWithout.nd rfl (.inl rfl)) (fun _ _ _ _ _ => pts_one (pt_cmpR op_notIn_seq (pv 7) (pe_ix ix_tup (pv 1) (pv 4) (fun _ _ => rfl)) rfl)) (fun _ _ _ _ _ => pv 7))))
        (pss_one (ps_if (pt_truth (pv 6) (fun _ => rfl)) (pss_one (ps_expr (pe_bm PySem.F.plainAttrs_list PySem.F.slot_list_append PySem.F.type_list_append mt_append (pv 3) (pa_cons (pe_op op_catA (pe_op op_catA (pe_slice sl_tupA (pv 2) po_none (po_some (pv 4))) (pe_tup (pa_cons (pv 6) pa_nil))) (pe_slice sl_tupA (pv 0) (po_some (pe_op op_add (pv 4) pe_int)) po_none)) pa_nil)))) pss_nil))))
      (pss_one (ps_ret (pv 3)))))), ?_⟩
    refine ⟨u, rfl, v, rfl, u, v, c, d, rfl, hu, hv, hc, hcd, fun r H1 s1 hr1 => ?_⟩
    have hw : withoutM c d = match commonM c d with
      | none => [c]
      | some b => (List.range c.length).flatMap (pieceM b c d) := rfl
    cases hcm : commonM c d with
    | none =>
      rw [hcm] at hr1 hw
      cases hr1
      refine ⟨.non, rfl, rfl, _, rfl, ?_⟩
      refine ⟨u, rfl, by show 1 ≤ sizeLine; decide, fun p np => ?_⟩
      refine q _ _ (Same.trans s1 (same_upd np)) (s1.free np) ?_
      rw [hw]
      exact .lst upd_same (.cons (hu.same (Same.trans s1 (same_upd np))) .nil)
    | some bb =>
      rw [hcm] at hr1 hw
      have hu1 := hu.same s1
      have hv1 := hv.same s1
      have hbb : bb.length = c.length := by
        unfold commonM at hcm
        split at hcm
        · cases hcm
        · cases hcm
          exact boths_len c d hcd
      unfold dC at hu1 hv1
      cases hr1 with
      | tup hsh rsh =>
        rename_i sh zs
        cases hu1 with
        | tup ha hs =>
          rename_i a xs
          cases hv1 with
          | tup hb ht =>
            rename_i b ys
            have l1 := hs.length
            have l2 := ht.length
            have l3 := rsh.length
            rw [List.length_map] at l1 l2 l3
            have hc4 := hc.1
            refine ⟨.ref sh, rfl, rfl, _, rfl, ?_⟩
            refine ⟨Nat.zero_le _, fun l nl => ?_⟩
            have nlH : H l = none := s1.free nl
            have sl : Same H1 (upd H1 l (.lst [])) := same_upd nl
            refine ⟨.ref a, rfl, a, xs, rfl, SqT.of (sl _ _ ha), ?_⟩
            refine for_it (walk_enumT (xs := xs)) (fun i σ H3 => ∃ (y4 y5 y6 : Option V) (us : List V), σ = [some (.ref a), some (.ref b), some (.ref sh), some (.ref l), y4, y5, y6, none] ∧ Same H1 H3 ∧ H3 l = some (.lst us) ∧ RpAll H3 us (((List.range i).flatMap (pieceM bb c d)).map dC)) ⟨none, none, none, [], rfl, sl, upd_same, .nil⟩ ?_ ?_ ?_
            · rintro i σ H3 _ ⟨y4, y5, y6, us, rfl, s3, _⟩
              exact SqT.of (s3 _ _ ha)
            · rintro i x σ H3 H4 hi ⟨y4, y5, y6, us, rfl, s3, d3, r3⟩ ⟨T, x1, x2, rfl, nT, rfl, f1, f2⟩
              cases f1
              have hi1 : i < c.length := by omega
              have hi2 : i < d.length := by omega
              obtain ⟨d1, hd1, r1⟩ := hs.get f2
              rw [List.getElem?_map, List.getElem?_eq_getElem hi1] at hd1
              cases hd1
              have sT : Same H3 (upd H3 T (.tup [.int (i : Nat), x2])) := same_upd nT
              have sA := Same.trans s3 sT
              obtain ⟨g, rfl, hg⟩ := (r1.same sA).dW_inv
              have hgd : (d.map dW)[i]? = some (dW d[i]) := by rw [List.getElem?_map, List.getElem?_eq_getElem hi2]; rfl
              obtain ⟨vo, hvo, rvo⟩ := ht.getD hgd
              obtain ⟨go, rfl, hgo⟩ := (rvo.same sA).dW_inv
              have hlw := minus_wd (d := d) hc i hi1
              rw [getD_at hi2] at hlw
              have hcl : c[i].length ≤ 4 := (hc.2 _ (List.getElem_mem hi1)).2.1
              refine ⟨T, _, rfl, SqT.of upd_same, rfl, _, _, rfl, _, _, rfl, rfl, ?_⟩
              refine ⟨.ref g, rfl, g, rfl, ⟨_, SqT.of hg⟩, fun D nD => ?_⟩
              refine filt_lc (fun w => !isIn d[i] w) nD hg (by omega) (fun _ => rfl) (fun _ => rfl) (fun j h H2 Q s2 hq => ?_) (fun H5 s5 d5 => ?_)
              · exact ⟨_, rfl, .ref b, rfl, .int (i : Nat), rfl, b, _, _, .ref go, rfl, rfl, SqT.of (s2 _ _ (sA _ _ hb)), atI_nat hvo, go, _, rfl, .inr (SqT.of (s2 _ _ hgo)), rfl, all_flat _, _, rfl, hq⟩
              · refine .inl ⟨D, _, rfl, SqL.of d5, fun al nal => ?_⟩
                have s6 : Same H3 (upd H5 al (.tup ((c[i].filter fun w => !isIn d[i] w).map V.str))) := Same.trans (Same.trans sT s5) (same_upd nal)
                have e6 : (upd H5 al (.tup ((c[i].filter fun w => !isIn d[i] w).map V.str))) al = some (.tup ((c[i].filter fun w => !isIn d[i] w).map V.str)) := upd_same
                generalize upd H5 al (.tup ((c[i].filter fun w => !isIn d[i] w).map V.str)) = H6 at s6 e6 ⊢
                have e6 : H6 al = some (.tup ((minusM c[i] d[i]).map V.str)) := e6
                refine ⟨.ref al, rfl, _, .inr (.inl ⟨_, SqT.of e6, rfl⟩), ?_⟩
                have hpe := piece_eq bb c d i hi1 hi2
                rw [show ((minusM c[i] d[i]).map V.str).isEmpty = (minusM c[i] d[i]).isEmpty by cases minusM c[i] d[i] <;> rfl]
                have d6 := s6 _ _ d3
                cases hem : (minusM c[i] d[i]).isEmpty with
                | true =>
                  rw [hem, if_pos rfl] at hpe
                  refine ⟨_, _, _, us, rfl, Same.trans s3 s6, d6, ?_⟩
                  rw [range_flat, hpe, List.append_nil]
                  exact r3.same s6
                | false =>
                  rw [hem, if_neg (by decide)] at hpe
                  have s16 := Same.trans s3 s6
                  refine ⟨.ref l, rfl, .inl ⟨rfl, _, SqL.of d6⟩, .ref sh, rfl, .int (i : Nat), rfl, (i : Int), rfl, slA_use (s16 _ _ hsh) fun r1 H7 s7 e7 => ?_⟩
                  rw [cut_take _ _ (by omega)] at e7
                  refine ⟨.ref al, rfl, by show 1 ≤ sizeLine; decide, fun p np => ?_⟩
                  have s8 : Same H6 (upd H7 p (.tup [.ref al])) := Same.trans s7 (same_upd np)
                  refine catA_use (same_upd np _ _ e7) upd_same (by rw [List.length_take]; simp; omega) fun r2 H9 s9 e9 => ?_
                  have s10 := Same.trans s8 s9
                  refine ⟨.ref a, rfl, .int (i : Nat), rfl, (i : Int), 1, rfl, rfl, ((i + 1 : Nat) : Int), rfl, ?_⟩
                  dsimp only [tNoPart]
                  refine slA_use (s10 _ _ (s16 _ _ ha)) fun r3' H11 s11 e11 => ?_
                  rw [cut_drop _ _ (by omega)] at e11
                  have hsz : (xs.drop (i + 1)).length ≤ 4 := by rw [List.length_drop]; omega
                  refine catA_use (s11 _ _ e9) e11 (by rw [List.length_append, List.length_take]; simp; omega) fun r4 H12 s12 e12 => ?_
                  have s6c := Same.trans (Same.trans s10 s11) s12
                  have d12 := s6c _ _ d6
                  have sAll := Same.trans s16 s6c
                  have hlen3 := r3.length
                  rw [List.length_map] at hlen3
                  have hpl := pieces_len bb c d i
                  refine ⟨l, us, _, rfl, rfl, d12, small1000 (by omega), _, _, _, us ++ [.ref r4], rfl, fun z o e => ?_, upd_same, ?_⟩
                  · rw [upd_ne (fun z => by subst z; rw [nl] at e; cases e)]
                    exact sAll _ _ e
                  · rw [range_flat, hpe]
                    exact RpAll.snocC d12 ((r3.same s6).same s6c) e12 (RpAll.piece i (rsh.same sAll) (hs.same sAll) (s6c _ _ e6))
            · rintro σ H3 ⟨y4, y5, y6, us, rfl, s3, d3, r3⟩
              rw [l1] at r3
              exact ⟨.ref l, rfl, q _ _ (Same.trans s1 s3) nlH (by rw [hw]; exact .lst d3 r3)⟩
end
end Sg

namespace Sg
open PySem PySem.Spec PyProof.Rows L2
section
variable {P : Program} {w : World} {K : PySem.W.Frag} {mg : Str → Option Value} {base : Heap}
theorem ok_lwithout {f fC : Addr} {fd fdC : FuncData} {k : Nat} (F : Fun K "_law_without" "_law_without" sLWithout f fd) (FC : Fun K "_law_common" "_law_common" sLCommon fC fdC) (bC : Binds K fdC ["_law_a_one", "_law_a_other"] []) (gC : mg "_law_common" = some (.ref fC))
    (mt : mg "tuple" = none) (mz : mg "zip" = none) (mr : mg "range" = none) (ml : mg "len" = none) : FnOk P w K mg base CX0 (k + 2) f fd ["_law_a_one", "_law_a_other"] spWithout := by
  have GC : FnOk P w K mg base CX0 (k + 1) fC fdC ["_law_a_one", "_law_a_other"] spCommon := ok_lcommon FC mt mz
  refine F.ok scLWithout (fun vs H Q E h => ?_) (fun cdv A outer s H vs Q E hr h => ?_)
  · obtain ⟨u, v, c, d, rfl, _⟩ := h
    rfl
  · obtain ⟨u, v, c, d, rfl, hu, hv, hc, hcd, q⟩ := h
    refine ⟨_, pss_cons (ps_par (i := 2) (j := 3) rfl scLWithout.nd rfl rfl (by decide) rfl rfl (pa_cons (pe_call GC hr (by rfl) gC FC.kp bC .nil pass0 (pa_cons (pv 0) (pa_cons (pv 1) pa_nil))) (pa_cons (pe_lst pa_nil) pa_nil)) rfl)
      (pss_cons (ps_if (pt_cmpR op_isN (pv 2) pe_non (nomark _)) (pss_one (ps_ret (pe_lst (pa_cons (pv 0) pa_nil)))) pss_nil)
      (pss_cons (ps_for PassesOwn.never rfl (pi_range1 rfl mr (pa_cons (pe_callB call_len_seq (by rfl) ml PySem.boot_len (pa_cons (pv 0) pa_nil)) pa_nil)) (pg_name (i := 4) scLWithout.nd rfl (.inr rfl))
        (pss_cons (ps_set (i := 5) scLWithout.nd rfl (.inl rfl) (pe_tupleOf (by rfl) mt (pe_lc (own := [("_law_word", 6)]) (g := gName 6) (tt := tTest (tOp (rIn K true) (tVar 6) (tOp (rIxT K) (tVar 1) (tVar 4)))) (te := tVar 6) rfl scLWithout.nd (pi_tup (pe_ix ix_tup (pv 0) (pv 4) (fun _ _ => rfl))) (blkOk_by (N := nLWithout) (sc := defScope sLWithout) (by decide +kernel))
            (fun _ _ _ _ _ => pg_name (i := 6) scLWithout.nd rfl (.inl rfl)) (fun _ _ _ _ _ => pts_one (pt_cmpR op_notIn_seq (pv 6) (pe_ix ix_tup (pv 1) (pv 4) (fun _ _ => rfl)) rfl)) (fun _ _ _ _ _ => pv 6))))
        (pss_one (ps_if (pt_cmpR (op_neD hr.units) (pv 5) (pe_tup pa_nil) (nomark _)) (pss_one (ps_expr (pe_bm PySem.F.plainAttrs_list PySem.F.slot_list_append PySem.F.type_list_append mt_append (pv 3) (pa_cons (pe_op op_catA (pe_op op_catA (pe_slice sl_tupA (pv 2) po_none (po_some (pv 4))) (pe_tup (pa_cons (pv 5) pa_nil))) (pe_slice sl_tupA (pv 0) (po_some (pe_op op_add (pv 4) pe_int)) po_none)) pa_nil)))) pss_nil))))
      (pss_one (ps_ret (pv 3))))), ?_⟩
    refine ⟨u, rfl, v, rfl, u, v, c, d, rfl, hu, hv, hc, hcd, fun r H1 s1 hr1 => ⟨Nat.zero_le _, fun l nl => ⟨_, _, rfl, ?_⟩⟩⟩
    have nlH : H l = none := s1.free nl
    have sl : Same H1 (upd H1 l (.lst [])) := same_upd nl
    have hw : withoutM c d = match commonM c d with
      | none => [c]
      | some b => (List.range c.length).flatMap (pieceM b c d) := rfl
    cases hcm : commonM c d with
    | none =>
      rw [hcm] at hr1 hw
      cases hr1
      refine ⟨.non, rfl, rfl, _, rfl, ?_⟩
      refine ⟨u, rfl, by show 1 ≤ sizeLine; decide, fun p np => ?_⟩
      refine q _ _ (Same.trans s1 (Same.trans sl (same_upd np))) ((Same.trans s1 sl).free np) ?_
      rw [hw]
      exact .lst upd_same (.cons (hu.same (Same.trans s1 (Same.trans sl (same_upd np)))) .nil)
    | some bb =>
      rw [hcm] at hr1 hw
      have hu1 := hu.same s1
      have hv1 := hv.same s1
      have hbb : bb.length = c.length := by
        unfold commonM at hcm
        split at hcm
        · cases hcm
        · cases hcm
          exact boths_len c d hcd
      unfold dC at hu1 hv1
      cases hr1 with
      | tup hsh rsh =>
        rename_i sh zs
        cases hu1 with
        | tup ha hs =>
          rename_i a xs
          cases hv1 with
          | tup hb ht =>
            rename_i b ys
            have l1 := hs.length
            have l2 := ht.length
            have l3 := rsh.length
            rw [List.length_map] at l1 l2 l3
            have hc4 := hc.1
            refine ⟨.ref sh, rfl, rfl, _, rfl, ?_⟩
            refine ⟨.ref a, rfl, a, xs, rfl, .inr (SqT.of (sl _ _ ha)), _, rfl, by omega, by omega, ?_⟩
            refine for_it (walk_range (lo := 0) (n := (xs.length : Int).toNat)) (fun i σ H3 => ∃ (y4 y5 : Option V) (us : List V), σ = [some (.ref a), some (.ref b), some (.ref sh), some (.ref l), y4, y5, none] ∧ Same H1 H3 ∧ H3 l = some (.lst us) ∧ RpAll H3 us (((List.range i).flatMap (pieceM bb c d)).map dC)) ⟨none, none, [], rfl, sl, upd_same, .nil⟩ (fun _ _ _ _ _ => trivial) ?_ ?_
            · rintro i x σ H4 H3 hi ⟨y4, y5, us, rfl, s3, d3, r3⟩ ⟨rfl, rfl⟩
              rw [Int.toNat_natCast] at hi
              have hi1 : i < c.length := by omega
              have hi2 : i < d.length := by omega
              have e0i : (0 : Int) + (i : Nat) = (i : Nat) := Int.zero_add _
              have hgc : (c.map dW)[i]? = some (dW c[i]) := by rw [List.getElem?_map, List.getElem?_eq_getElem hi1]; rfl
              obtain ⟨vc, hvc, rvc⟩ := hs.getD hgc
              obtain ⟨g, rfl, hg⟩ := (rvc.same s3).dW_inv
              have hgd : (d.map dW)[i]? = some (dW d[i]) := by rw [List.getElem?_map, List.getElem?_eq_getElem hi2]; rfl
              obtain ⟨vo, hvo, rvo⟩ := ht.getD hgd
              obtain ⟨go, rfl, hgo⟩ := (rvo.same s3).dW_inv
              have hlw := minus_wd (d := d) hc i hi1
              rw [getD_at hi2] at hlw
              have hcl : c[i].length ≤ 4 := (hc.2 _ (List.getElem_mem hi1)).2.1
              refine ⟨.ref a, rfl, .int (0 + (i : Nat)), rfl, a, _, _, .ref g, rfl, rfl, SqT.of (s3 _ _ ha), (by rw [e0i]; exact atI_nat hvc), g, rfl, ⟨_, SqT.of hg⟩, fun D nD => ?_⟩
              refine filt_lc (fun w => !isIn d[i] w) nD hg (by omega) (fun _ => rfl) (fun _ => rfl) (fun j h H2 Q s2 hq => ?_) (fun H5 s5 d5 => ?_)
              · exact ⟨_, rfl, .ref b, rfl, .int (0 + (i : Nat)), rfl, b, _, _, .ref go, rfl, rfl, SqT.of (s2 _ _ (s3 _ _ hb)), (by rw [e0i]; exact atI_nat hvo), go, _, rfl, .inr (SqT.of (s2 _ _ hgo)), rfl, all_flat _, _, rfl, hq⟩
              · refine .inl ⟨D, _, rfl, SqL.of d5, fun al nal => ?_⟩
                have s6 : Same H3 (upd H5 al (.tup ((c[i].filter fun w => !isIn d[i] w).map V.str))) := Same.trans s5 (same_upd nal)
                have e6 : (upd H5 al (.tup ((c[i].filter fun w => !isIn d[i] w).map V.str))) al = some (.tup ((c[i].filter fun w => !isIn d[i] w).map V.str)) := upd_same
                generalize upd H5 al (.tup ((c[i].filter fun w => !isIn d[i] w).map V.str)) = H6 at s6 e6 ⊢
                have e6 : H6 al = some (.tup ((minusM c[i] d[i]).map V.str)) := e6
                refine ⟨.ref al, rfl, Nat.zero_le _, fun em nem => ?_⟩
                have sE : Same H6 (upd H6 em (.tup [])) := same_upd nem
                refine ⟨dW (minusM c[i] d[i]), .tuple [], (Rp.dW_mk (sE _ _ e6)).dp, Rp.dp (.tup upd_same .nil), shaped_of (lay_dW hlw.2) (Nat.le_trans (dep_dW _) (by decide)), rfl, _, rfl, ?_⟩
                rw [show PyData.eqv (dW (minusM c[i] d[i])) (.tuple []) = (minusM c[i] d[i]).isEmpty by
                  show PyData.eqv (.tuple ((minusM c[i] d[i]).map .str)) (.tuple []) = _
                  rw [eqv_nil_t]
                  cases minusM c[i] d[i] <;> rfl]
                have s6 := Same.trans s6 sE
                have e6 := sE _ _ e6
                generalize upd H6 em (.tup []) = H6 at s6 e6 ⊢
                have hpe := piece_eq bb c d i hi1 hi2
                have d6 := s6 _ _ d3
                cases hem : (minusM c[i] d[i]).isEmpty with
                | true =>
                  rw [hem, if_pos rfl] at hpe
                  refine ⟨_, _, us, rfl, Same.trans s3 s6, d6, ?_⟩
                  rw [range_flat, hpe, List.append_nil]
                  exact r3.same s6
                | false =>
                  rw [hem, if_neg (by decide)] at hpe
                  have s16 := Same.trans s3 s6
                  refine ⟨.ref l, rfl, .inl ⟨rfl, _, SqL.of d6⟩, .ref sh, rfl, .int (0 + (i : Nat)), rfl, _, rfl, slA_use (s16 _ _ hsh) fun r1 H7 s7 e7 => ?_⟩
                  rw [e0i, cut_take _ _ (by omega)] at e7
                  refine ⟨.ref al, rfl, by show 1 ≤ sizeLine; decide, fun p np => ?_⟩
                  have s8 : Same H6 (upd H7 p (.tup [.ref al])) := Same.trans s7 (same_upd np)
                  refine catA_use (same_upd np _ _ e7) upd_same (by rw [List.length_take]; simp; omega) fun r2 H9 s9 e9 => ?_
                  have s10 := Same.trans s8 s9
                  refine ⟨.ref a, rfl, .int (0 + (i : Nat)), rfl, _, 1, rfl, rfl, _, rfl, ?_⟩
                  dsimp only [tNoPart]
                  refine slA_use (s10 _ _ (s16 _ _ ha)) fun r3' H11 s11 e11 => ?_
                  rw [show (0 : Int) + (i : Nat) + 1 = ((i + 1 : Nat) : Int) by omega, cut_drop _ _ (by omega)] at e11
                  have hsz : (xs.drop (i + 1)).length ≤ 4 := by rw [List.length_drop]; omega
                  refine catA_use (s11 _ _ e9) e11 (by rw [List.length_append, List.length_take]; simp; omega) fun r4 H12 s12 e12 => ?_
                  have s6c := Same.trans (Same.trans s10 s11) s12
                  have d12 := s6c _ _ d6
                  have sAll := Same.trans s16 s6c
                  have hlen3 := r3.length
                  rw [List.length_map] at hlen3
                  have hpl := pieces_len bb c d i
                  refine ⟨l, us, _, rfl, rfl, d12, small1000 (by omega), _, _, us ++ [.ref r4], rfl, fun z o e => ?_, upd_same, ?_⟩
                  · rw [upd_ne (fun z => by subst z; rw [nl] at e; cases e)]
                    exact sAll _ _ e
                  · rw [range_flat, hpe]
                    exact RpAll.snocC d12 ((r3.same s6).same s6c) e12 (RpAll.piece i (rsh.same sAll) (hs.same sAll) (s6c _ _ e6))
            · rintro σ H3 ⟨y4, y5, us, rfl, s3, d3, r3⟩
              rw [Int.toNat_natCast, l1] at r3
              exact ⟨.ref l, rfl, q _ _ (Same.trans s1 s3) nlH (by rw [hw]; exact .lst d3 r3)⟩
end
end Sg

namespace Sg
open PySem PySem.Spec PyProof.Rows L2
abbrev sPair : Stmt := topS 18
abbrev nPair : List Str := ["_law_a_one", "_law_a_other", "_law_due", "_law_left", "_law_told"]
theorem scPair : FnScope nPair ["_law_a_one", "_law_a_other"] (defScope sPair) := ⟨rfl, rfl, rfl, by decide +kernel, rfl, by decide +kernel, by decide +kernel⟩
/-! ### keywords -/
def oneG {α : Type} : List α → List α → List α
  | [], [x] => [x]
  | _, _ => []
def swapG {α : Type} : List α → List α → List α
  | [], [x, y] => [y, x]
  | _, _ => []
theorem oneG_rel {vs zs : List V} {us ws : List Value} (r1 : Vals vs us) (r2 : Vals zs ws) : Vals (oneG vs zs) (oneG us ws) := by
  cases r1 with
  | cons _ _ => exact .nil
  | nil =>
    cases r2 with
    | nil => exact .nil
    | cons a r3 =>
      cases r3 with
      | nil => exact .cons a .nil
      | cons _ _ => exact .nil
theorem swapG_rel {vs zs : List V} {us ws : List Value} (r1 : Vals vs us) (r2 : Vals zs ws) : Vals (swapG vs zs) (swapG us ws) := by
  cases r1 with
  | cons _ _ => exact .nil
  | nil =>
    cases r2 with
    | nil => exact .nil
    | cons a r3 =>
      cases r3 with
      | nil => exact .nil
      | cons b r4 =>
        cases r4 with
        | nil => exact .cons b (.cons a .nil)
        | cons _ _ => exact .nil
theorem kb_swap {K : PySem.W.Frag} {x : Str} {st : Stmt} {f : Addr} {fd : FuncData} (F : Fun K x x st f fd) {a b : Str}
    (h : ∀ (kV doc pm : Value) (an : Option Addr) (cdv ct : Value) (u v : Value), bindArgs (PySem.W.fnOf x x (defArgs st) (defBody st) (defScope st) .none kV doc pm an cdv ct) ⟨[], [(b, v), (a, u)]⟩ = pure [(a, u), (b, v)]) : KBinds K fd [a, b] [b, a] swapG swapG := by
  obtain ⟨oc, od, kV, doc, pm, an, cdv, ct, osl, rfl, lk, hcd⟩ := F.ex
  refine ⟨fun s us ws _ hl => ?_, swapG_rel⟩
  match us, ws, hl with
  | [], [v, u], _ => exact .of_eq (h kV doc pm an cdv ct u v)
theorem kb_one {K : PySem.W.Frag} {x : Str} {st : Stmt} {f : Addr} {fd : FuncData} (F : Fun K x x st f fd) {a : Str}
    (h : ∀ (kV doc pm : Value) (an : Option Addr) (cdv ct : Value) (u : Value), bindArgs (PySem.W.fnOf x x (defArgs st) (defBody st) (defScope st) .none kV doc pm an cdv ct) ⟨[], [(a, u)]⟩ = pure [(a, u)]) : KBinds K fd [a] [a] oneG oneG := by
  obtain ⟨oc, od, kV, doc, pm, an, cdv, ct, osl, rfl, lk, hcd⟩ := F.ex
  refine ⟨fun s us ws _ hl => ?_, oneG_rel⟩
  match us, ws, hl with
  | [], [u], _ => exact .of_eq (h kV doc pm an cdv ct u)
/-! ### sizes -/
theorem fit_strs (n : Nat) (ws : List Str) : ∀ d ∈ ws.map PyData.str, Fit n d := fun d hd => by
  obtain ⟨w, _, rfl⟩ := List.mem_map.mp hd
  cases n <;> trivial
theorem fit_dW (n : Nat) {ws : List Str} (h : ws.length ≤ 1000) : Fit (n + 1) (dW ws) := ⟨by rw [List.length_map]; exact h, fit_strs n ws⟩
theorem fit_dC (n : Nat) {c : List (List Str)} (h : c.length ≤ 1000) (hw : ∀ ws ∈ c, ws.length ≤ 1000) : Fit (n + 2) (dC c) := ⟨by rw [List.length_map]; exact h, fun d hd => by
  obtain ⟨ws, hws, rfl⟩ := List.mem_map.mp hd
  exact fit_dW n (hw ws hws)⟩
theorem COk.sizes {c : List (List Str)} (h : COk c) : c.length ≤ 1000 ∧ ∀ ws ∈ c, ws.length ≤ 1000 := ⟨by have := h.1; omega, fun ws hw => by have := (h.2 ws hw).2.1; omega⟩
theorem boths_sizes {c d : List (List Str)} (h : COk c) : (bothsM c d).length ≤ 1000 ∧ ∀ ws ∈ bothsM c d, ws.length ≤ 1000 := ⟨by
  unfold bothsM
  rw [List.length_zipWith]
  have := h.1
  omega, fun ws hw => by have := (boths_wd h ws hw).1; omega⟩
theorem fit_dO (n : Nat) {c d : List (List Str)} (h : COk c) : Fit (n + 2) (dO (commonM c d)) := by
  unfold commonM
  split
  · trivial
  · exact fit_dC n (boths_sizes h).1 (boths_sizes h).2
theorem common_is {c d b : List (List Str)} (h : commonM c d = some b) : b = bothsM c d := by
  unfold commonM at h
  split at h
  · cases h
  · exact (Option.some.inj h).symm
theorem fit_without (n : Nat) {c d : List (List Str)} (h : COk c) : Fit (n + 3) (.list ((withoutM c d).map dC)) := by
  have hw : withoutM c d = match commonM c d with
    | none => [c]
    | some b => (List.range c.length).flatMap (pieceM b c d) := rfl
  cases hcm : commonM c d with
  | none =>
    rw [hcm] at hw
    have hw : withoutM c d = [c] := hw
    rw [hw]
    exact ⟨by show 1 ≤ 1000; decide, fun e he => by rw [List.mem_singleton.mp he]; exact fit_dC n h.sizes.1 h.sizes.2⟩
  | some b =>
    rw [hcm] at hw
    have hw : withoutM c d = (List.range c.length).flatMap (pieceM b c d) := hw
    rw [hw]
    refine ⟨?_, fun e he => ?_⟩
    · rw [List.length_map]
      have := pieces_len b c d c.length
      have := h.1
      omega
    · obtain ⟨x, hx, rfl⟩ := List.mem_map.mp he
      obtain ⟨i, hi, hp⟩ := List.mem_flatMap.mp hx
      have hic : i < c.length := List.mem_range.mp hi
      unfold pieceM at hp
      split at hp
      · cases hp
      · rw [List.mem_singleton.mp hp]
        have hb := common_is hcm
        have hbs := boths_sizes (d := d) h
        rw [← hb] at hbs
        refine fit_dC n ?_ fun ws hws => ?_
        · rw [List.length_append, List.length_cons, List.length_take, List.length_drop]
          have := h.1
          omega
        · rcases List.mem_append.mp hws with z | z
          · exact hbs.2 ws (List.mem_of_mem_take z)
          · rcases List.mem_cons.mp z with z | z
            · rw [z, getD_at hic]
              exact Nat.le_trans (List.length_filter_le _ _) (h.sizes.2 _ (List.getElem_mem hic))
            · exact h.sizes.2 ws (List.mem_of_mem_drop z)
section
variable {P : Program} {w : World} {K : PySem.W.Frag} {mg : Str → Option Value} {base : Heap}
def spPair : Sp := fun vs H Q _ => ∃ (u v : V) (c d : List (List Str)), vs = [u, v] ∧ Rp H u (dC c) ∧ Rp H v (dC d) ∧ COk c ∧ c.length = d.length ∧ ∀ (H' : Hp), Same H H' → Q (.bl true) H'
theorem ok_pair {f fS fC fW fL fM : Addr} {fd fdS fdC fdW fdL fdM : FuncData} (F : Fun K "_law_pair_right" "_law_pair_right" sPair f fd)
    (FS : Fun K "_law_same" "_law_same" sSame fS fdS) (bS : Binds K fdS ["_law_found", "_law_due"] []) (gS : mg "_law_same" = some (.ref fS)) (GS : FnOk P w K mg base CX0 5 fS fdS ["_law_found", "_law_due"] (spSame 5))
    (FC : Fun K "common" "common" sCommon fC fdC) (bC : Binds K fdC ["one", "other"] []) (kC : KBinds K fdC ["one", "other"] ["other", "one"] swapG swapG) (gC : mg "common" = some (.ref fC)) (GC : FnOk P w K mg base CX0 5 fC fdC ["one", "other"] spCommon)
    (FW : Fun K "without" "without" sWithout fW fdW) (bW : Binds K fdW ["one", "other"] []) (kW : KBinds K fdW ["one", "other"] ["other", "one"] swapG swapG) (gW : mg "without" = some (.ref fW)) (GW : FnOk P w K mg base CX0 5 fW fdW ["one", "other"] spWithout)
    (FL : Fun K "_law_common" "_law_common" sLCommon fL fdL) (bL : Binds K fdL ["_law_a_one", "_law_a_other"] []) (gL : mg "_law_common" = some (.ref fL)) (GL : FnOk P w K mg base CX0 5 fL fdL ["_law_a_one", "_law_a_other"] spCommon)
    (FM : Fun K "_law_without" "_law_without" sLWithout fM fdM) (bM : Binds K fdM ["_law_a_one", "_law_a_other"] []) (gM : mg "_law_without" = some (.ref fM)) (GM : FnOk P w K mg base CX0 5 fM fdM ["_law_a_one", "_law_a_other"] spWithout) : FnOk P w K mg base CX0 6 f fd ["_law_a_one", "_law_a_other"] spPair := by
  refine F.ok scPair (fun vs H Q E h => ?_) (fun cdv A outer s H vs Q E hr h => ?_)
  · obtain ⟨u, v, c, d, rfl, _⟩ := h
    rfl
  · obtain ⟨u, v, c, d, rfl, hu, hv, hc, hcd, q⟩ := h
    refine ⟨_, pss_cons (ps_par (i := 2) (j := 3) rfl scPair.nd rfl rfl (by decide) rfl rfl (pa_cons (pe_call GL hr (by rfl) gL FL.kp bL .nil pass0 (pa_cons (pv 0) (pa_cons (pv 1) pa_nil))) (pa_cons (pe_call GM hr (by rfl) gM FM.kp bM .nil pass0 (pa_cons (pv 0) (pa_cons (pv 1) pa_nil))) pa_nil)) rfl)
      (pss_cons (ps_set (i := 4) scPair.nd rfl (.inl rfl) (pe_call GW hr (by rfl) gW FW.kp bW .nil pass0 (pa_cons (pv 0) (pa_cons (pv 1) pa_nil))))
      (pss_cons (ps_if (pt_not (pt_val (pe_call GS hr (by rfl) gS FS.kp bS .nil pass0 (pa_cons (pe_lst (pa_cons (pe_call GC hr (by rfl) gC FC.kp bC .nil pass0 (pa_cons (pv 0) (pa_cons (pv 1) pa_nil))) (pa_cons (pe_callK0 GC hr (by rfl) gC FC.kp kC pass0 (pk_cons (pv 1) (pk_cons (pv 0) pk_nil))) (pa_cons (pv 4) pa_nil))))
          (pa_cons (pe_lst (pa_cons (pv 2) (pa_cons (pv 2) (pa_cons (pv 3) pa_nil)))) pa_nil))))) (pss_one (ps_ret pe_bl)) pss_nil)
      (pss_cons (ps_expr (pe_bm PySem.F.plainAttrs_list PySem.F.slot_list_append PySem.F.type_list_append mt_append (pv 4) (pa_cons pe_str pa_nil)))
      (pss_one (ps_ret (pe_call GS hr (by rfl) gS FS.kp bS .nil pass0 (pa_cons (pe_callK0 GW hr (by rfl) gW FW.kp kW pass0 (pk_cons (pv 1) (pk_cons (pv 0) pk_nil))) (pa_cons (pv 3) pa_nil)))))))), ?_⟩
    refine ⟨u, rfl, v, rfl, u, v, c, d, rfl, hu, hv, hc, hcd, fun due H1 s1 hdue => ?_⟩
    refine ⟨u, rfl, v, rfl, u, v, c, d, rfl, hu.same s1, hv.same s1, hc, hcd, fun left H2 s2 nleft hleft => ⟨_, _, rfl, ?_⟩⟩
    have s12 := Same.trans s1 s2
    refine ⟨u, rfl, v, rfl, u, v, c, d, rfl, hu.same s12, hv.same s12, hc, hcd, fun told H3 s3 ntold htold => ?_⟩
    have s13 := Same.trans s12 s3
    refine ⟨u, rfl, v, rfl, u, v, c, d, rfl, hu.same s13, hv.same s13, hc, hcd, fun r1 H4 s4 h4 => ?_⟩
    have s14 := Same.trans s13 s4
    refine ⟨v, rfl, u, rfl, u, v, c, d, rfl, hu.same s14, hv.same s14, hc, hcd, fun r2 H5 s5 h5 => ?_⟩
    refine ⟨.ref told, rfl, by show 3 ≤ sizeLine; decide, fun l1 nl1 => ?_⟩
    have t1 : Same H5 (upd H5 l1 (.lst [r1, r2, .ref told])) := same_upd nl1
    refine ⟨due, rfl, due, rfl, .ref left, rfl, by show 3 ≤ sizeLine; decide, fun l2 nl2 => ?_⟩
    have t2 : Same (upd H5 l1 (.lst [r1, r2, .ref told])) (upd (upd H5 l1 (.lst [r1, r2, .ref told])) l2 (.lst [due, due, .ref left])) := same_upd nl2
    have t12 := Same.trans t1 t2
    have s35 := Same.trans s4 s5
    refine ⟨.ref l1, .ref l2, .list [dO (commonM c d), dO (commonM c d), .list ((withoutM c d).map dC)], rfl,
      .lst (t2 _ _ upd_same) (.cons ((h4.same s5).same t12) (.cons (h5.same t12) (.cons ((htold.same s35).same t12) .nil))),
      .lst upd_same (.cons (((hdue.same s2).same s3).same (Same.trans s35 t12)) (.cons (((hdue.same s2).same s3).same (Same.trans s35 t12)) (.cons ((hleft.same s3).same (Same.trans s35 t12)) .nil))),
      ⟨by show 3 ≤ 1000; decide, fun e he => ?_⟩, fun H6 s6 => ⟨true, rfl, ?_⟩⟩
    · rcases List.mem_cons.mp he with z | he
      · rw [z]
        exact fit_dO 1 hc
      rcases List.mem_cons.mp he with z | he
      · rw [z]
        exact fit_dO 1 hc
      rw [List.mem_singleton.mp he]
      exact fit_without 0 hc
    · have s36 := Same.trans (Same.trans s35 t12) s6
      cases htold with
      | lst ha hs =>
        rename_i xs
        have hz := (fit_without 0 (d := d) hc).1
        rw [← hs.length] at hz
        have e6 := s36 _ _ ha
        refine ⟨.ref told, rfl, .inl ⟨rfl, _, SqL.of e6⟩, told, xs, _, rfl, rfl, e6, Nat.lt_of_le_of_lt hz (by decide), ?_⟩
        have s2u : Same H2 (upd H6 told (.lst (xs ++ [.str (Str.ofString "more")]))) := fun b o e => by
          rw [upd_ne (fun z => by subst z; rw [ntold] at e; cases e)]
          exact s36 _ _ (s3 _ _ e)
        have s0u := Same.trans s12 s2u
        refine ⟨v, rfl, u, rfl, u, v, c, d, rfl, hu.same s0u, hv.same s0u, hc, hcd, fun r3 H7 s7 n7 h7 => ?_⟩
        refine ⟨.ref left, rfl, .ref r3, .ref left, _, rfl, h7, (hleft.same s2u).same s7, fit_without 1 hc, fun H8 s8 => q _ (Same.trans (Same.trans s0u s7) s8)⟩
end
end Sg

namespace Sg
open PySem PySem.Spec PyProof.Rows L2
abbrev sRight : Stmt := topS 19
abbrev nRight : List Str := ["_law_tape_here", "_law_a_facets", "_law_every", "_law_turn", "_law_a_one", "_law_a_other", "_law_at", "_law_told", "_law_pair"]
theorem scRight : FnScope nRight ["_law_tape_here"] (defScope sRight) := ⟨rfl, rfl, rfl, by decide +kernel, rfl, by decide +kernel, by decide +kernel⟩
/-! ### a case without itself -/
theorem isIn_self {ws : List Str} {w : Str} (h : w ∈ ws) : isIn ws w = true := by
  unfold isIn inV
  rw [List.any_eq_true]
  exact ⟨V.str w, List.mem_map.mpr ⟨w, h, rfl⟩, by simp [eqV]⟩
theorem boths_self : ∀ c : List (List Str), bothsM c c = c
  | [] => rfl
  | ws :: r => by
    show ws.filter (isIn ws) :: bothsM r r = ws :: r
    rw [boths_self r, List.filter_eq_self.mpr fun w hw => isIn_self hw]
theorem minus_self (ws : List Str) : minusM ws ws = [] := by
  unfold minusM
  rw [List.filter_eq_nil_iff]
  intro w hw
  rw [isIn_self hw]
  decide
theorem without_self {c : List (List Str)} (h : COk c) : withoutM c c = [] := by
  have hcm : commonM c c = some c := by
    unfold commonM
    rw [boths_self, if_neg]
    intro z
    obtain ⟨ws, hw, e⟩ := List.any_eq_true.mp z
    have h1 := (h.2 ws hw).1
    cases ws with
    | nil => simp at h1
    | cons x r => cases e
  show (match commonM c c with
    | none => [c]
    | some b => (List.range c.length).flatMap (pieceM b c c)) = []
  rw [hcm]
  show (List.range c.length).flatMap (pieceM c c c) = []
  rw [List.flatMap_eq_nil_iff]
  intro i _
  unfold pieceM
  rw [minus_self]
  rfl
theorem fit_settings (n : Nat) {c : List (List Str)} (h : COk c) : Fit (n + 2) (.list ((settingsM c).map dW)) := by
  have h1 := settingsM_len (fun ws hw => (h.2 ws hw).2.1) c.length (Nat.le_refl _)
  have h2 := pow4 h.1
  have h3 := settingsM_each (c := c) c.length (Nat.le_refl _)
  rw [List.take_length] at h1 h3
  refine ⟨by rw [List.length_map]; omega, fun d hd => ?_⟩
  obtain ⟨s, hs, rfl⟩ := List.mem_map.mp hd
  exact fit_dW n (by rw [h3 s hs]; have := h.1; omega)
theorem COk.of {fs : List (Str × List Str)} (h : FOk fs) (hl : fs.length ≤ 4) : COk (fs.map (·.2)) := ⟨by rw [List.length_map]; exact hl, fun ws hw => by
  obtain ⟨p, hp, rfl⟩ := List.mem_map.mp hw
  have := h p hp
  exact ⟨by omega, this.2.2.1, this.2.2.2⟩⟩
theorem COk.twist {c d : List (List Str)} (hc : COk c) (hd : COk d) (i : Nat) (hi : i < c.length) (hj : i < d.length) : COk (c.take i ++ d[i] :: c.drop (i + 1)) ∧ (c.take i ++ d[i] :: c.drop (i + 1)).length = c.length := by
  have hl : (c.take i ++ d[i] :: c.drop (i + 1)).length = c.length := by
    rw [List.length_append, List.length_cons, List.length_take, List.length_drop]
    omega
  refine ⟨⟨by rw [hl]; exact hc.1, fun ws hw => ?_⟩, hl⟩
  rcases List.mem_append.mp hw with z | z
  · exact hc.2 ws (List.mem_of_mem_take z)
  · rcases List.mem_cons.mp z with z | z
    · rw [z]
      exact hd.2 _ (List.getElem_mem hj)
    · exact hc.2 ws (List.mem_of_mem_drop z)
theorem Rp.tup_inv {H : Hp} {v : V} {ds : List PyData} (h : Rp H v (.tuple ds)) : ∃ a xs, v = .ref a ∧ H a = some (.tup xs) ∧ RpAll H xs ds := by
  cases h with
  | tup ha hs => exact ⟨_, _, rfl, ha, hs⟩
theorem Rp.lst_inv {H : Hp} {a : Addr} {ds : List PyData} (h : Rp H (.ref a) (.list ds)) : ∃ xs, H a = some (.lst xs) ∧ RpAll H xs ds := by
  cases h with
  | lst ha hs => exact ⟨_, ha, hs⟩
section
variable {P : Program} {w : World} {K : PySem.W.Frag} {mg : Str → Option Value} {base : Heap}
def spRight : Sp := fun vs H Q _ => ∃ (t : Addr), vs = [.ref t] ∧ TapeAt H t 0 ∧ ∀ (H' : Hp), Ex t H H' → Q (.bl true) H'
theorem ok_right {f fD fF fS fH fA fI fL fP fW : Addr} {fd fdD fdF fdS fdH fdA fdI fdL fdP fdW : FuncData} (F : Fun K "_law_right" "_law_right" sRight f fd)
    (FD : Fun K "_law_draw" "_law_draw" sDraw fD fdD) (bD : Binds K fdD ["_law_tape_here", "_law_many"] []) (gD : mg "_law_draw" = some (.ref fD)) (GD : FnOk P w K mg base CX0 6 fD fdD ["_law_tape_here", "_law_many"] spDraw)
    (FF : Fun K "_law_facets" "_law_facets" sFacets fF fdF) (bF : Binds K fdF ["_law_tape_here", "_law_many", "_law_most"] []) (gF : mg "_law_facets" = some (.ref fF)) (GF : FnOk P w K mg base CX0 6 fF fdF ["_law_tape_here", "_law_many", "_law_most"] spFacets)
    (FS : Fun K "_law_same" "_law_same" sSame fS fdS) (bS : Binds K fdS ["_law_found", "_law_due"] []) (gS : mg "_law_same" = some (.ref fS)) (GS : FnOk P w K mg base CX0 6 fS fdS ["_law_found", "_law_due"] (spSame 6))
    (FH : Fun K "whole_case" "whole_case" sWhole fH fdH) (bH : Binds K fdH ["facets"] []) (kH : KBinds K fdH ["facets"] ["facets"] oneG oneG) (gH : mg "whole_case" = some (.ref fH)) (GH : FnOk P w K mg base CX0 6 fH fdH ["facets"] spWhole)
    (FA : Fun K "_law_case" "_law_case" sCase fA fdA) (bA : Binds K fdA ["_law_tape_here", "_law_a_facets"] []) (gA : mg "_law_case" = some (.ref fA)) (GA : FnOk P w K mg base CX0 6 fA fdA ["_law_tape_here", "_law_a_facets"] spCase)
    (FI : Fun K "settings_in" "settings_in" sSettingsIn fI fdI) (bI : Binds K fdI ["case"] []) (kI : KBinds K fdI ["case"] ["case"] oneG oneG) (gI : mg "settings_in" = some (.ref fI)) (GI : FnOk P w K mg base CX0 6 fI fdI ["case"] spSettings)
    (FL : Fun K "_law_settings" "_law_settings" sLSettings fL fdL) (bL : Binds K fdL ["_law_some"] []) (gL : mg "_law_settings" = some (.ref fL)) (GL : FnOk P w K mg base CX0 6 fL fdL ["_law_some"] spSettings)
    (FP : Fun K "_law_pair_right" "_law_pair_right" sPair fP fdP) (bP : Binds K fdP ["_law_a_one", "_law_a_other"] []) (gP : mg "_law_pair_right" = some (.ref fP)) (GP : FnOk P w K mg base CX0 6 fP fdP ["_law_a_one", "_law_a_other"] spPair)
    (FW : Fun K "without" "without" sWithout fW fdW) (bW : Binds K fdW ["one", "other"] []) (gW : mg "without" = some (.ref fW)) (GW : FnOk P w K mg base CX0 6 fW fdW ["one", "other"] spWithout)
    (ml : mg "len" = none) (mr : mg "range" = none) (mi : mg "int" = none) (mt : mg "tuple" = none) : FnOk P w K mg base CX0 7 f fd ["_law_tape_here"] spRight := by
  refine F.ok scRight (fun vs H Q E h => ?_) (fun cdv A outer s H vs Q E hr h => ?_)
  · obtain ⟨t, rfl, _⟩ := h
    rfl
  · obtain ⟨t, rfl, hT, q⟩ := h
    refine ⟨_, pss_cons (ps_set (i := 1) scRight.nd rfl (.inl rfl) (pe_call GF hr (by rfl) gF FF.kp bF .nil pass0 (pa_cons (pv 0) (pa_cons (pe_ix ix_list (pe_lst (pa_cons (pe_op op_add pe_int (pe_call GD hr (by rfl) gD FD.kp bD .nil pass0 (pa_cons (pv 0) (pa_cons pe_int pa_nil)))) (pa_cons pe_int pa_nil))) (pe_call GD hr (by rfl) gD FD.kp bD .nil pass0 (pa_cons (pv 0) (pa_cons pe_int pa_nil))) (fun _ _ => rfl))
          (pa_cons (pe_op op_add pe_int (pe_call GD hr (by rfl) gD FD.kp bD .nil pass0 (pa_cons (pv 0) (pa_cons pe_int pa_nil)))) pa_nil)))))
      (pss_cons (ps_set (i := 2) scRight.nd rfl (.inl rfl) (pe_tupleOf (by rfl) mt (pe_lc (own := [("_law_pair", 8)]) (g := gName 8) (tt := tYes) (te := tOp (rIxT K) (tVar 8) (tC (.int 1))) rfl scRight.nd (pi_tup (pv 1)) (blkOk_by (N := nRight) (sc := defScope sRight) (by decide +kernel))
          (fun _ _ _ _ _ => pg_name (i := 8) scRight.nd rfl (.inl rfl)) (fun _ _ _ _ _ => pts_nil) (fun _ _ _ _ _ => pe_ix ix_tup (pv 8) pe_int (fun _ _ => rfl)))))
      (pss_cons (ps_if (pt_not (pt_val (pe_call GS hr (by rfl) gS FS.kp bS .nil pass0 (pa_cons (pe_lst (pa_cons (pe_call GH hr (by rfl) gH FH.kp bH .nil pass0 (pa_cons (pv 1) pa_nil)) (pa_cons (pe_callK0 GH hr (by rfl) gH FH.kp kH pass0 (pk_cons (pv 1) pk_nil)) pa_nil))) (pa_cons (pe_lst (pa_cons (pv 2) (pa_cons (pv 2) pa_nil))) pa_nil))))) (pss_one (ps_ret pe_bl)) pss_nil)
      (pss_cons (ps_for PassesOwn.never rfl (pi_range1 rfl mr (pa_cons pe_int pa_nil)) (pg_name (i := 3) scRight.nd rfl (.inl rfl))
        (pss_cons (ps_par (i := 4) (j := 5) rfl scRight.nd rfl rfl (by decide) rfl rfl (pa_cons (pe_call GA hr (by rfl) gA FA.kp bA .nil pass0 (pa_cons (pv 0) (pa_cons (pv 1) pa_nil))) (pa_cons (pe_ix ix_list (pe_lst (pa_cons (pe_call GA hr (by rfl) gA FA.kp bA .nil pass0 (pa_cons (pv 0) (pa_cons (pv 1) pa_nil))) (pa_cons (pv 2) pa_nil))) (pe_callTy call_int1 (by rfl) mi (by decide +kernel) (pa_cons (pe_cmpR op_eq (pe_op op_mod (pv 3) pe_int) pe_int (nomark _)) pa_nil)) (fun _ _ => rfl)) pa_nil)) rfl)
        (_root_.C8.pss_cut (ps_if (pt_cmpR op_eq (pe_op op_mod (pv 3) pe_int) pe_int (nomark _)) (pss_cons (ps_set (i := 6) scRight.nd rfl (.inl rfl) (pe_call GD hr (by rfl) gD FD.kp bD .nil pass0 (pa_cons (pv 0) (pa_cons (pe_callB call_len_seq (by rfl) ml PySem.boot_len (pa_cons (pv 1) pa_nil)) pa_nil))))
            (pss_one (ps_set (i := 5) scRight.nd rfl (.inl rfl) (pe_op op_catA (pe_op op_catA (pe_slice sl_tupA (pv 4) po_none (po_some (pv 6))) (pe_tup (pa_cons (pe_ix ix_tup (pv 5) (pv 6) (fun _ _ => rfl)) pa_nil))) (pe_slice sl_tupA (pv 4) (po_some (pe_op op_add (pv 6) pe_int)) po_none))))) pss_nil)
        (pss_cons (ps_set (i := 7) scRight.nd rfl (.inl rfl) (pe_call GI hr (by rfl) gI FI.kp bI .nil pass0 (pa_cons (pv 4) pa_nil)))
        (pss_cons (ps_if (PW.pt (pw_or (pt_not (pt_val (pe_call GS hr (by rfl) gS FS.kp bS .nil pass0 (pa_cons (pv 7) (pa_cons (pe_call GL hr (by rfl) gL FL.kp bL .nil pass0 (pa_cons (pv 4) pa_nil)) pa_nil))))) (pw_or1 (pt_not (pt_val (pe_call GP hr (by rfl) gP FP.kp bP .nil pass0 (pa_cons (pv 4) (pa_cons (pv 5) pa_nil)))))))) (pss_one (ps_ret pe_bl)) pss_nil)
        (pss_cons (ps_expr (pe_bm0 PySem.F.plainAttrs_list PySem.F.slot_list_clear PySem.F.type_list_clear mt_clear (pv 7)))
        (pss_one (ps_if (PW.pt (pw_or (pt_not (pt_val (pe_call GS hr (by rfl) gS FS.kp bS .nil pass0 (pa_cons (pe_callK0 GI hr (by rfl) gI FI.kp kI pass0 (pk_cons (pv 4) pk_nil)) (pa_cons (pe_call GL hr (by rfl) gL FL.kp bL .nil pass0 (pa_cons (pv 4) pa_nil)) pa_nil))))) (pw_or1 (pt_not (pt_val (pe_call GP hr (by rfl) gP FP.kp bP .nil pass0 (pa_cons (pv 5) (pa_cons (pv 4) pa_nil)))))))) (pss_one (ps_ret pe_bl)) pss_nil))))))))
      (pss_one (ps_ret (pe_and (pe_cmpR op_eq (pe_callB call_len_seq (by rfl) ml PySem.boot_len (pa_cons (pe_call GI hr (by rfl) gI FI.kp bI .nil pass0 (pa_cons (pv 2) pa_nil)) pa_nil)) (pe_callB call_len_seq (by rfl) ml PySem.boot_len (pa_cons (pe_call GL hr (by rfl) gL FL.kp bL .nil pass0 (pa_cons (pv 2) pa_nil)) pa_nil)) (nomark _))
        (pe_one (pe_call GS hr (by rfl) gS FS.kp bS .nil pass0 (pa_cons (pe_call GW hr (by rfl) gW FW.kp bW .nil pass0 (pa_cons (pv 2) (pa_cons (pv 2) pa_nil))) (pa_cons (pe_lst pa_nil) pa_nil)))))))))), ?_⟩
    -- the facets
    refine ⟨.ref t, rfl, .ref t, rfl, t, 4, 0, rfl, by decide, by decide, hT, by omega, fun r1 H1 x1 T1 h10 h11 => ⟨1, r1, rfl, rfl, by show 2 ≤ sizeLine; decide, fun l nl => ?_⟩⟩
    have nlt := T1.ne_none nl
    refine ⟨.ref t, rfl, t, 2, 1, rfl, by decide, by decide, T1.upd nlt, by omega, fun r2 H2 x2 T2 h20 h21 => ?_⟩
    obtain ⟨m, hm0, hm1, hat⟩ : ∃ m : Nat, 1 ≤ m ∧ m ≤ 4 ∧ atI [V.int (1 + r1), .int 4] r2 = some (.int (m : Int)) := by
      have : r2 = 0 ∨ r2 = 1 := by omega
      rcases this with rfl | rfl
      · refine ⟨(1 + r1).toNat, by omega, by omega, ?_⟩
        rw [Int.toNat_of_nonneg (by omega)]
        rfl
      · exact ⟨4, by decide, by decide, rfl⟩
    refine ⟨l, _, r2, .int (m : Int), rfl, rfl, SqL.of (x2 l _ nlt upd_same), hat, ?_⟩
    refine ⟨.ref t, rfl, t, 3, 2, rfl, by decide, by decide, T2, by omega, fun r3 H3 x3 T3 h30 h31 => ⟨2, r3, rfl, rfl, t, m, 3, 2 + r3, rfl, hm1, by omega, by omega, T3, by omega, fun fv H4 fs x4 T4 hfv hfl hfo => ?_⟩⟩
    have x04 : Ex t H H4 := ((x1.trans (Same.ex (same_upd nl))).trans (x2.trans x3)).trans x4
    -- every
    obtain ⟨a, vs, rfl, ha, hs⟩ := hfv.tup_inv
    have hlen := hs.length
    rw [List.length_map] at hlen
    refine ⟨.ref a, rfl, a, rfl, ⟨vs, SqT.of ha⟩, fun D nD => ?_⟩
    refine lc_it (walk_tup (xs := vs)) (fun i H5 => ∃ us : List V, Same H4 H5 ∧ H5 D = some (.lst us) ∧ RpAll H5 us (((fs.take i).map (·.2)).map dW)) ⟨[], same_upd nD, upd_same, .nil⟩ (fun i H5 _ h5 => let ⟨_, s5, _⟩ := h5; SqT.of (s5 _ _ ha)) ?_ ?_
    · rintro i x H6 H5 hi ⟨us, s5, d5, r5⟩ ⟨rfl, fx⟩
      obtain ⟨d, hd, hr0⟩ := hs.get fx
      have hif : i < fs.length := by omega
      rw [List.getElem?_map, List.getElem?_eq_getElem hif] at hd
      cases hd
      obtain ⟨b, u, rfl, hb, hu⟩ := (hr0.same s5).dP_inv
      obtain ⟨g, rfl, hg⟩ := hu.dW_inv
      refine ⟨rfl, .ref b, rfl, b, _, 1, .ref g, rfl, rfl, SqT.of hb, rfl, _, d5, ?_, us ++ [.ref g], fun c o e => ?_, upd_same, ?_⟩
      · rw [r5.length, List.length_map, List.length_map, List.length_take]
        exact small1000 (by omega)
      · rw [upd_ne (fun z => by subst z; rw [nD] at e; cases e)]
        exact s5 _ _ e
      · rw [List.take_succ_eq_append_getElem hif, List.map_append]
        exact RpAll.snoc d5 r5 hg
    rintro H5 ⟨us, s5, d5, r5⟩
    rw [hlen, List.take_length] at r5
    refine .inl ⟨D, _, rfl, SqL.of d5, fun ev nev => ?_⟩
    have okE : COk (fs.map (·.2)) := COk.of hfo (by omega)
    have s6 : Same H4 (upd H5 ev (.tup us)) := Same.trans s5 (same_upd nev)
    have hE6 : Rp (upd H5 ev (.tup us)) (.ref ev) (dC (fs.map (·.2))) := .tup upd_same (r5.same (same_upd nev))
    have hF6 := hfv.same s6
    have T6 := T4.same s6
    have x06 := x04.trans (Same.ex s6)
    generalize upd H5 ev (.tup us) = H6 at s6 hE6 hF6 T6 x06 ⊢
    have hEl : (fs.map (·.2)).length = fs.length := List.length_map _
    generalize hes : fs.map (·.2) = es at *
    -- whole_case
    refine ⟨.ref a, rfl, .ref a, fs, rfl, hF6, by omega, fun w1 H7 s7 hw1 => ?_⟩
    refine ⟨.ref a, rfl, .ref a, fs, rfl, hF6.same s7, by omega, fun w2 H8 s8 hw2 => ?_⟩
    rw [hes] at hw1 hw2
    refine ⟨by show 2 ≤ sizeLine; decide, fun l1 nl1 => ⟨.ref ev, rfl, .ref ev, rfl, by show 2 ≤ sizeLine; decide, fun l2 nl2 => ?_⟩⟩
    have t1 : Same H8 (upd H8 l1 (.lst [w1, w2])) := same_upd nl1
    have t2 : Same (upd H8 l1 (.lst [w1, w2])) (upd (upd H8 l1 (.lst [w1, w2])) l2 (.lst [.ref ev, .ref ev])) := same_upd nl2
    have s6b := Same.trans s7 (Same.trans s8 (Same.trans t1 t2))
    refine ⟨.ref l1, .ref l2, .list [dC es, dC es], rfl, .lst (t2 _ _ upd_same) (.cons (hw1.same (Same.trans s8 (Same.trans t1 t2))) (.cons (hw2.same (Same.trans t1 t2)) .nil)), .lst upd_same (.cons (hE6.same s6b) (.cons (hE6.same s6b) .nil)), ⟨by show 2 ≤ 1000; decide, fun e he => ?_⟩, fun H9 s9 => ⟨true, rfl, ?_⟩⟩
    · have : e = dC es := by
        rcases List.mem_cons.mp he with z | he
        · exact z
        · exact List.mem_singleton.mp he
      rw [this]
      exact fit_dC 2 okE.sizes.1 okE.sizes.2
    have s69 := Same.trans s6b s9
    -- the turns
    refine ⟨9, rfl, by decide, by decide, ?_⟩
    refine for_it (walk_range (lo := 0) (n := (9 : Int).toNat)) (fun i σ G => ∃ (y3 y4 y5 y6 y7 : Option V), σ = [some (.ref t), some (.ref a), some (.ref ev), y3, y4, y5, y6, y7, none] ∧ Ex t H G ∧ TapeAt G t (103 + 41 * i) ∧ Rp G (.ref a) (dF fs) ∧ Rp G (.ref ev) (dC es)) ⟨_, _, _, _, _, rfl, x06.trans (Same.ex s69), (T6.same s69).mono (by omega), hF6.same s69, hE6.same s69⟩ (fun _ _ _ _ _ => trivial) ?_ ?_
    · rintro i x σ G0 G hi ⟨y3, y4, y5, y6, y7, rfl, xG, TG, hF, hE⟩ ⟨rfl, rfl⟩
      have hi9 : i < 9 := hi
      refine ⟨.ref t, rfl, .ref a, rfl, t, .ref a, _, fs, rfl, hF, hfo, by omega, TG, by omega, fun v4 G1 c xG1 TG1 h4 lc okc => ?_⟩
      have hF1 := hF.keep (TG.keepT xG1) (imm_dF fs)
      have hE1 := hE.keep (TG.keepT xG1) (imm_dC es)
      refine ⟨.ref t, rfl, .ref a, rfl, t, .ref a, _, fs, rfl, hF1, hfo, by omega, TG1, by omega, fun v5 G2 d xG2 TG2 h5 ld okd => ⟨.ref ev, rfl, by show 2 ≤ sizeLine; decide, fun l nl => ?_⟩⟩
      have kT2 := TG1.keepT xG2
      have sl : Same G2 (upd G2 l (.lst [v5, .ref ev])) := same_upd nl
      have TG3 := TG2.same sl
      have xG3 := (xG.trans xG1).trans (xG2.trans (Same.ex sl))
      have hF3 := (hF1.keep kT2 (imm_dF fs)).same sl
      have hE3 := (hE1.keep kT2 (imm_dC es)).same sl
      have h43 := (h4.keep kT2 (imm_dC c)).same sl
      have h53 := h5.same sl
      have el : (upd G2 l (.lst [v5, .ref ev])) l = some (.lst [v5, .ref ev]) := upd_same
      generalize upd G2 l (.lst [v5, .ref ev]) = G3 at *
      obtain ⟨vo, od, hato, hvo, okod, lod⟩ : ∃ (vo : V) (od : List (List Str)), atI [v5, V.ref ev] (if decide (V.int ((0 + (i : Nat)) % 4) = V.int 0) = true then 1 else 0) = some vo ∧ Rp G3 vo (dC od) ∧ COk od ∧ od.length = fs.length := by
        cases decide (V.int ((0 + (i : Nat)) % 4) = V.int 0) with
        | true => exact ⟨_, _, rfl, hE3, okE, hEl⟩
        | false => exact ⟨_, _, rfl, h53, okd, ld⟩
      refine ⟨.int (0 + (i : Nat)), rfl, _, 4, rfl, rfl, (by decide : (0 : Int) < 4), rfl, .inr ⟨_, rfl, l, _, _, vo, rfl, rfl, SqL.of el, hato, _, _, rfl, ?_⟩⟩
      refine ⟨fun σ' G' => ∃ (y6 : Option V) (vo' : V) (od' : List (List Str)), σ' = [some (.ref t), some (.ref a), some (.ref ev), some (.int (0 + (i : Nat))), some v4, some vo', y6, y7, none] ∧ Ex t H G' ∧ TapeAt G' t (103 + 41 * (i + 1)) ∧ Rp G' (.ref a) (dF fs) ∧ Rp G' (.ref ev) (dC es) ∧ Rp G' v4 (dC c) ∧ Rp G' vo' (dC od') ∧ COk od' ∧ od'.length = fs.length, ?_, ?_⟩
      · refine ⟨.int (0 + (i : Nat)), rfl, _, 3, rfl, rfl, (by decide : (0 : Int) < 3), rfl, _, rfl, ite2 (fun hb => ?_) (fun hb => ?_)⟩
        · obtain ⟨a', fvs, ea, haf, hsf⟩ := hF3.tup_inv
          cases ea
          have hlf := hsf.length
          rw [List.length_map] at hlf
          refine ⟨.ref t, rfl, .ref a, rfl, a, fvs, rfl, .inr (SqT.of haf), t, _, _, rfl, by omega, by omega, TG3, by omega, fun r G4 xG4 TG4 hr0 hr1 => ?_⟩
          obtain ⟨j, rfl⟩ : ∃ j : Nat, r = j := ⟨r.toNat, by omega⟩
          have kT4 := TG3.keepT xG4
          have h44 := h43.keep kT4 (imm_dC c)
          have ho4 := hvo.keep kT4 (imm_dC od)
          have hF4 := hF3.keep kT4 (imm_dF fs)
          have hE4 := hE3.keep kT4 (imm_dC es)
          obtain ⟨a4, xs4, rfl, ha4, hs4⟩ := h44.tup_inv
          obtain ⟨ao, xso, rfl, hao, hso⟩ := ho4.tup_inv
          have l4 := hs4.length
          have lo := hso.length
          rw [List.length_map] at l4 lo
          have hj : j < od.length := by omega
          have hgo : (od.map dW)[j]? = some (dW od[j]) := by rw [List.getElem?_map, List.getElem?_eq_getElem hj]; rfl
          obtain ⟨vj, hvj, rvj⟩ := hso.getD hgo
          obtain ⟨gj, rfl, hgj⟩ := rvj.dW_inv
          refine ⟨.ref a4, rfl, .int (j : Int), rfl, (j : Int), rfl, slA_use ha4 fun q1 G5 sG5 e5 => ?_⟩
          rw [cut_take _ _ (by omega)] at e5
          refine ⟨.ref ao, rfl, .int (j : Int), rfl, ao, xso, (j : Int), .ref gj, rfl, rfl, SqT.of (sG5 _ _ hao), atI_nat hvj, by show 1 ≤ sizeLine; decide, fun p np => ?_⟩
          refine catA_use (same_upd np _ _ e5) upd_same (by rw [List.length_take]; simp; omega) fun q2 G6 sG6 e6 => ?_
          have s46 := Same.trans (Same.trans sG5 (same_upd np)) sG6
          refine ⟨.ref a4, rfl, .int (j : Int), rfl, (j : Int), 1, rfl, rfl, ((j + 1 : Nat) : Int), rfl, ?_⟩
          dsimp only [tNoPart]
          refine slA_use (s46 _ _ ha4) fun q3 G7 sG7 e7 => ?_
          rw [cut_drop _ _ (by omega)] at e7
          have hsz : (xs4.drop (j + 1)).length ≤ 4 := by rw [List.length_drop]; omega
          refine catA_use (sG7 _ _ e6) e7 (by rw [List.length_append, List.length_take]; simp; omega) fun q4 G8 sG8 e8 => ?_
          have s48 := Same.trans s46 (Same.trans sG7 sG8)
          have tw := COk.twist okc okod j (by omega) hj
          refine ⟨_, .ref q4, c.take j ++ od[j] :: c.drop (j + 1), rfl, (xG3.trans xG4).trans (Same.ex s48), (TG4.same s48).mono (by omega), hF4.same s48, hE4.same s48, h44.same s48, .tup e8 (RpAll.piece j (hs4.same s48) (hs4.same s48) (s48 _ _ hgj)), tw.1, by rw [tw.2, lc]⟩
        · exact ⟨_, vo, od, rfl, xG3, TG3.mono (by omega), hF3, hE3, h43, hvo, okod, lod⟩
      · rintro σ' G' ⟨y6', vo', od', rfl, xM, TM, hFM, hEM, h4M, hoM, okM, lM⟩
        refine ⟨v4, rfl, v4, c, rfl, h4M, okc, fun told J1 j1 ntold htold => ?_⟩
        refine ⟨.ref told, rfl, v4, rfl, v4, c, rfl, h4M.same j1, okc, fun p2 J2 j2 np2 hp2 => ?_⟩
        refine ⟨.ref told, .ref p2, _, rfl, htold.same j2, hp2, fit_settings 3 okc, fun J3 j3 => ⟨true, rfl, ?_⟩⟩
        have j13 := Same.trans j1 (Same.trans j2 j3)
        refine ⟨v4, rfl, vo', rfl, v4, vo', c, od', rfl, h4M.same j13, hoM.same j13, okc, by omega, fun J4 j4 => ⟨true, rfl, ?_⟩⟩
        obtain ⟨txs, et, _⟩ := htold.lst_inv
        have e4 := j4 _ _ (j3 _ _ (j2 _ _ et))
        refine ⟨.ref told, rfl, .inl ⟨rfl, _, SqL.of e4⟩, told, txs, rfl, rfl, e4, ?_⟩
        have k5 : Same G' (upd J4 told (.lst [])) := fun b o e => by
          rw [upd_ne (fun z => by subst z; rw [ntold] at e; cases e)]
          exact j4 _ _ (j13 _ _ e)
        refine ⟨v4, rfl, v4, c, rfl, h4M.same k5, okc, fun p5 J5 j5 np5 hp5 => ?_⟩
        refine ⟨v4, rfl, v4, c, rfl, (h4M.same k5).same j5, okc, fun p6 J6 j6 np6 hp6 => ?_⟩
        refine ⟨.ref p5, .ref p6, _, rfl, hp5.same j6, hp6, fit_settings 3 okc, fun J7 j7 => ⟨true, rfl, ?_⟩⟩
        have k7 := Same.trans k5 (Same.trans j5 (Same.trans j6 j7))
        refine ⟨vo', rfl, v4, rfl, vo', v4, od', c, rfl, hoM.same k7, h4M.same k7, okM, by omega, fun J8 j8 => ⟨true, rfl, ?_⟩⟩
        have k8 := Same.trans k7 j8
        exact ⟨_, _, _, _, _, rfl, xM.trans (Same.ex k8), TM.same k8, hFM.same k8, hEM.same k8⟩
    · rintro σ G ⟨y3, y4, y5, y6, y7, rfl, xG, TG, hF, hE⟩
      refine ⟨.ref ev, rfl, .ref ev, es, rfl, hE, okE, fun p1 J1 j1 n1 h1 => ?_⟩
      obtain ⟨xs1, e1, g1⟩ := h1.lst_inv
      refine ⟨p1, xs1, rfl, .inl (SqL.of e1), .ref ev, rfl, .ref ev, es, rfl, hE.same j1, okE, fun p2 J2 j2 n2 h2 => ?_⟩
      obtain ⟨xs2, e2, g2⟩ := h2.lst_inv
      refine ⟨p2, xs2, rfl, .inl (SqL.of e2), rfl, _, rfl, ?_⟩
      rw [show decide (V.int (xs1.length : Int) = V.int (xs2.length : Int)) = true from decide_eq_true (by rw [g1.length, g2.length])]
      have j12 := Same.trans j1 j2
      refine ⟨.ref ev, rfl, .ref ev, rfl, .ref ev, .ref ev, es, es, rfl, hE.same j12, hE.same j12, okE, rfl, fun p3 J3 j3 n3 h3 => ⟨Nat.zero_le _, fun p4 n4 => ?_⟩⟩
      rw [without_self okE] at h3
      refine ⟨.ref p3, .ref p4, .list [], rfl, h3.same (same_upd n4), .lst upd_same .nil, ⟨by show 0 ≤ 1000; decide, fun e he => by cases he⟩, fun J5 j5 => ?_⟩
      exact q _ (xG.trans (Same.ex (Same.trans j12 (Same.trans j3 (Same.trans (same_upd n4) j5)))))
end
end Sg

namespace Sg
open PySem PySem.Spec PyProof.Rows L2
abbrev sLaw : Stmt := topS 20
abbrev nLaw : List Str := ["_law_script", "_law_cells", "_law_k"]
theorem scLaw : FnScope nLaw ["_law_script"] (defScope sLaw) := ⟨rfl, rfl, rfl, by decide +kernel, rfl, by decide +kernel, by decide +kernel⟩
section
variable {P : Program} {w : World} {K : PySem.W.Frag} {mg : Str → Option Value} {base : Heap}
def spLaw (K : PySem.W.Frag) : Sp := fun vs H Q _ => ∃ (a : Addr) (ns : List Int), vs = [.ref a] ∧ SqL K H a (ns.map V.int) ∧ ns.length ≤ 63 ∧ ∀ H', Q (.bl true) H'
theorem ok_law {f fO fT fR : Addr} {fd fdO fdT fdR : FuncData} (F : Fun K "law" "law" sLaw f fd)
    (FO : Fun K "_law_folded" "_law_folded" sFolded fO fdO) (bO : Binds K fdO ["_law_script", "_law_many"] []) (gO : mg "_law_folded" = some (.ref fO)) (GO : FnOk P w K mg base CX0 7 fO fdO ["_law_script", "_law_many"] (spFolded K))
    (FT : Fun K "_law_tape" "_law_tape" sTape fT fdT) (bT : Binds K fdT ["_law_script", "_law_k"] []) (gT : mg "_law_tape" = some (.ref fT)) (GT : FnOk P w K mg base CX0 7 fT fdT ["_law_script", "_law_k"] (spTape K))
    (FR : Fun K "_law_right" "_law_right" sRight fR fdR) (bR : Binds K fdR ["_law_tape_here"] []) (gR : mg "_law_right" = some (.ref fR)) (GR : FnOk P w K mg base CX0 7 fR fdR ["_law_tape_here"] spRight)
    (ml : mg "len" = none) (mr : mg "range" = none) (ma : mg "all" = none) (mm : mg "max" = none) : FnOk P w K mg base CX0 8 f fd ["_law_script"] (spLaw K) := by
  refine F.ok scLaw (fun vs H Q E h => ?_) (fun cdv A outer s H vs Q E hr h => ?_)
  · obtain ⟨a, ns, rfl, _⟩ := h
    rfl
  · obtain ⟨a, ns, rfl, hS, hn, q⟩ := h
    refine ⟨_, pss_cons (ps_set (i := 1) scLaw.nd rfl (.inr rfl) (pe_call GO hr (by rfl) gO FO.kp bO .nil pass0 (pa_cons (pv 0) (pa_cons pe_int pa_nil))))
      (pss_one (ps_ret (pe_callB (cr_all rfl) (by rfl) ma (by decide +kernel) (pa_cons (pe_lc (own := [("_law_k", 2)]) (g := gName 2) (tt := tYes) (te := tCall spRight [] E0 (tCons (tCall (spTape K) [] E0 (tCons (tVar 1) (tCons (tVar 2) tNil))) tNil)) rfl scLaw.nd
        (pi_range1 rfl mr (pa_cons (pe_callB (call_max2 rfl) (by rfl) mm (by decide +kernel) (pa_cons pe_int (pa_cons (pe_callB call_len_seq (by rfl) ml PySem.boot_len (pa_cons (pv 1) pa_nil)) pa_nil))) pa_nil)) (blkOk_by (N := nLaw) (sc := defScope sLaw) (by decide +kernel))
        (fun _ _ _ _ _ => pg_name (i := 2) scLaw.nd rfl (.inl rfl)) (fun _ _ _ _ _ => pts_nil) (fun _ _ _ _ _ => pe_call GR hr (by rfl) gR FR.kp bR .nil pass0 (pa_cons (pe_call GT hr (by rfl) gT FT.kp bT .nil pass0 (pa_cons (pv 1) (pa_cons (pv 2) pa_nil))) pa_nil))) pa_nil)))), ?_⟩
    refine ⟨.ref a, rfl, a, 4, ns, rfl, hS, by decide, by decide, hn, fun c H1 ms s1 nc ec lc => ?_⟩
    have hlm : (ms.map V.int).length ≤ 4 := by
      rw [List.length_map]
      omega
    refine ⟨.ref c, rfl, c, _, rfl, .inl (SqL.of ec), 1, _, rfl, _, rfl, ?_, ?_, fun D nD => ?_⟩
    · split <;> omega
    · split <;> omega
    generalize hk : (if ((ms.map V.int).length : Int) > 1 then ((ms.map V.int).length : Int) else 1) = kk
    have hkk : kk ≤ 4 := by
      rw [← hk]
      split <;> omega
    refine lc_it (walk_range (lo := 0) (n := kk.toNat)) (fun i H3 => Same H1 H3 ∧ H3 D = some (.lst ((List.replicate i true).map V.bl))) ⟨same_upd nD, upd_same⟩ (fun _ _ _ _ => trivial) ?_ ?_
    · rintro i x H4 H3 hi ⟨s3, d3⟩ ⟨rfl, rfl⟩
      have e0 : (0 : Int) + (i : Nat) = (i : Nat) := Int.zero_add _
      refine ⟨rfl, .ref c, rfl, .int (0 + (i : Nat)), rfl, c, i, ms, by rw [e0]; rfl, SqL.of (s3 _ _ ec), by omega, fun t H5 s5 nt T5 => ?_⟩
      refine ⟨t, rfl, T5, fun H6 x6 => ?_⟩
      have s36 : Same H3 H6 := fun b o e => x6 b o (fun z => by subst z; rw [nt] at e; cases e) (s5 b o e)
      have d6 := s36 _ _ d3
      refine ⟨_, d6, ?_, fun b o e => ?_, ?_⟩
      · rw [List.length_map, List.length_replicate]
        exact small1000 (by omega)
      · rw [upd_ne (fun z => by subst z; rw [nD] at e; cases e)]
        exact s36 _ _ (s3 _ _ e)
      · rw [upd_same, List.replicate_succ', List.map_append]
        rfl
    · rintro H3 ⟨s3, d3⟩
      refine ⟨D, _, rfl, SqL.of d3, ?_⟩
      rw [all_true]
      exact q _
end
theorem all_mk {l : PySem.W.OpenLaw} {w : World} {K : PySem.W.Frag} {h : Heap} {mg : Str → Option Value} {fa f1 f2 f3 f4 f5 f6 f7 f8 f9 f10 f11 f12 f13 f14 f15 f16 f17 f18 f19 : Addr} (X : K.In h) (G : h.Ns mainGlobals mg) (hfa : mg "law" = some (.ref fa))
    {od1 an1 od2 an2 od3 an3 od4 an4 od5 an5 od6 an6 od7 an7 od8 an8 od9 an9 od10 an10 od11 an11 od12 an12 od13 an13 od14 an14 od15 an15 od16 an16 od17 an17 od18 an18 od19 an19 : Option Addr} {sl1 sl2 sl3 sl4 sl5 sl6 sl7 sl8 sl9 sl10 sl11 sl12 sl13 sl14 sl15 sl16 sl17 sl18 sl19 : Array (Option Value)} {oc1 kV1 dc1 pm1 cd1 ct1 oc2 kV2 dc2 pm2 cd2 ct2 oc3 kV3 dc3 pm3 cd3 ct3 oc4 kV4 dc4 pm4 cd4 ct4 oc5 kV5 dc5 pm5 cd5 ct5 oc6 kV6 dc6 pm6 cd6 ct6 oc7 kV7 dc7 pm7 cd7 ct7 oc8 kV8 dc8 pm8 cd8 ct8 oc9 kV9 dc9 pm9 cd9 ct9 oc10 kV10 dc10 pm10 cd10 ct10 oc11 kV11 dc11 pm11 cd11 ct11 oc12 kV12 dc12 pm12 cd12 ct12 oc13 kV13 dc13 pm13 cd13 ct13 oc14 kV14 dc14 pm14 cd14 ct14 oc15 kV15 dc15 pm15 cd15 ct15 oc16 kV16 dc16 pm16 cd16 ct16 oc17 kV17 dc17 pm17 cd17 ct17 oc18 kV18 dc18 pm18 cd18 ct18 oc19 kV19 dc19 pm19 cd19 ct19 : Value}
    (a1 : PySem.W.nsIn K mainGlobals "settings_in" = some (some (.ref f1))) (l1 : K.lookup f1 = some ⟨oc1, od1, .func (PySem.W.fnOf "settings_in" "settings_in" (defArgs sSettingsIn) (defBody sSettingsIn) (defScope sSettingsIn) .none kV1 dc1 pm1 an1 cd1 ct1), sl1⟩) (c1 : PySem.W.codeIn K cd1 "settings_in" = true) (k1 : PySem.W.keepIn K (.ref f1) = true)
    (a2 : PySem.W.nsIn K mainGlobals "whole_case" = some (some (.ref f2))) (l2 : K.lookup f2 = some ⟨oc2, od2, .func (PySem.W.fnOf "whole_case" "whole_case" (defArgs sWhole) (defBody sWhole) (defScope sWhole) .none kV2 dc2 pm2 an2 cd2 ct2), sl2⟩) (c2 : PySem.W.codeIn K cd2 "whole_case" = true) (k2 : PySem.W.keepIn K (.ref f2) = true)
    (a3 : PySem.W.nsIn K mainGlobals "common" = some (some (.ref f3))) (l3 : K.lookup f3 = some ⟨oc3, od3, .func (PySem.W.fnOf "common" "common" (defArgs sCommon) (defBody sCommon) (defScope sCommon) .none kV3 dc3 pm3 an3 cd3 ct3), sl3⟩) (c3 : PySem.W.codeIn K cd3 "common" = true) (k3 : PySem.W.keepIn K (.ref f3) = true)
    (a4 : PySem.W.nsIn K mainGlobals "without" = some (some (.ref f4))) (l4 : K.lookup f4 = some ⟨oc4, od4, .func (PySem.W.fnOf "without" "without" (defArgs sWithout) (defBody sWithout) (defScope sWithout) .none kV4 dc4 pm4 an4 cd4 ct4), sl4⟩) (c4 : PySem.W.codeIn K cd4 "without" = true) (k4 : PySem.W.keepIn K (.ref f4) = true)
    (a5 : PySem.W.nsIn K mainGlobals "words_in_both" = some (some (.ref f5))) (l5 : K.lookup f5 = some ⟨oc5, od5, .func (PySem.W.fnOf "words_in_both" "words_in_both" (defArgs sBoth) (defBody sBoth) (defScope sBoth) .none kV5 dc5 pm5 an5 cd5 ct5), sl5⟩) (c5 : PySem.W.codeIn K cd5 "words_in_both" = true) (k5 : PySem.W.keepIn K (.ref f5) = true)
    (a6 : PySem.W.nsIn K mainGlobals "_law_tape" = some (some (.ref f6))) (l6 : K.lookup f6 = some ⟨oc6, od6, .func (PySem.W.fnOf "_law_tape" "_law_tape" (defArgs sTape) (defBody sTape) (defScope sTape) .none kV6 dc6 pm6 an6 cd6 ct6), sl6⟩) (c6 : PySem.W.codeIn K cd6 "_law_tape" = true) (k6 : PySem.W.keepIn K (.ref f6) = true)
    (a7 : PySem.W.nsIn K mainGlobals "_law_draw" = some (some (.ref f7))) (l7 : K.lookup f7 = some ⟨oc7, od7, .func (PySem.W.fnOf "_law_draw" "_law_draw" (defArgs sDraw) (defBody sDraw) (defScope sDraw) .none kV7 dc7 pm7 an7 cd7 ct7), sl7⟩) (c7 : PySem.W.codeIn K cd7 "_law_draw" = true) (k7 : PySem.W.keepIn K (.ref f7) = true)
    (a8 : PySem.W.nsIn K mainGlobals "_law_folded" = some (some (.ref f8))) (l8 : K.lookup f8 = some ⟨oc8, od8, .func (PySem.W.fnOf "_law_folded" "_law_folded" (defArgs sFolded) (defBody sFolded) (defScope sFolded) .none kV8 dc8 pm8 an8 cd8 ct8), sl8⟩) (c8 : PySem.W.codeIn K cd8 "_law_folded" = true) (k8 : PySem.W.keepIn K (.ref f8) = true)
    (a9 : PySem.W.nsIn K mainGlobals "_law_names" = some (some (.ref f9))) (l9 : K.lookup f9 = some ⟨oc9, od9, .func (PySem.W.fnOf "_law_names" "_law_names" (defArgs sNames) (defBody sNames) (defScope sNames) .none kV9 dc9 pm9 an9 cd9 ct9), sl9⟩) (c9 : PySem.W.codeIn K cd9 "_law_names" = true) (k9 : PySem.W.keepIn K (.ref f9) = true)
    (a10 : PySem.W.nsIn K mainGlobals "_law_part" = some (some (.ref f10))) (l10 : K.lookup f10 = some ⟨oc10, od10, .func (PySem.W.fnOf "_law_part" "_law_part" (defArgs sPart) (defBody sPart) (defScope sPart) .none kV10 dc10 pm10 an10 cd10 ct10), sl10⟩) (c10 : PySem.W.codeIn K cd10 "_law_part" = true) (k10 : PySem.W.keepIn K (.ref f10) = true)
    (a11 : PySem.W.nsIn K mainGlobals "_law_same" = some (some (.ref f11))) (l11 : K.lookup f11 = some ⟨oc11, od11, .func (PySem.W.fnOf "_law_same" "_law_same" (defArgs sSame) (defBody sSame) (defScope sSame) .none kV11 dc11 pm11 an11 cd11 ct11), sl11⟩) (c11 : PySem.W.codeIn K cd11 "_law_same" = true) (k11 : PySem.W.keepIn K (.ref f11) = true)
    (a12 : PySem.W.nsIn K mainGlobals "_law_facets" = some (some (.ref f12))) (l12 : K.lookup f12 = some ⟨oc12, od12, .func (PySem.W.fnOf "_law_facets" "_law_facets" (defArgs sFacets) (defBody sFacets) (defScope sFacets) .none kV12 dc12 pm12 an12 cd12 ct12), sl12⟩) (c12 : PySem.W.codeIn K cd12 "_law_facets" = true) (k12 : PySem.W.keepIn K (.ref f12) = true)
    (a13 : PySem.W.nsIn K mainGlobals "_law_settings" = some (some (.ref f13))) (l13 : K.lookup f13 = some ⟨oc13, od13, .func (PySem.W.fnOf "_law_settings" "_law_settings" (defArgs sLSettings) (defBody sLSettings) (defScope sLSettings) .none kV13 dc13 pm13 an13 cd13 ct13), sl13⟩) (c13 : PySem.W.codeIn K cd13 "_law_settings" = true) (k13 : PySem.W.keepIn K (.ref f13) = true)
    (a14 : PySem.W.nsIn K mainGlobals "_law_case" = some (some (.ref f14))) (l14 : K.lookup f14 = some ⟨oc14, od14, .func (PySem.W.fnOf "_law_case" "_law_case" (defArgs sCase) (defBody sCase) (defScope sCase) .none kV14 dc14 pm14 an14 cd14 ct14), sl14⟩) (c14 : PySem.W.codeIn K cd14 "_law_case" = true) (k14 : PySem.W.keepIn K (.ref f14) = true)
    (a15 : PySem.W.nsIn K mainGlobals "_law_common" = some (some (.ref f15))) (l15 : K.lookup f15 = some ⟨oc15, od15, .func (PySem.W.fnOf "_law_common" "_law_common" (defArgs sLCommon) (defBody sLCommon) (defScope sLCommon) .none kV15 dc15 pm15 an15 cd15 ct15), sl15⟩) (c15 : PySem.W.codeIn K cd15 "_law_common" = true) (k15 : PySem.W.keepIn K (.ref f15) = true)
    (a16 : PySem.W.nsIn K mainGlobals "_law_without" = some (some (.ref f16))) (l16 : K.lookup f16 = some ⟨oc16, od16, .func (PySem.W.fnOf "_law_without" "_law_without" (defArgs sLWithout) (defBody sLWithout) (defScope sLWithout) .none kV16 dc16 pm16 an16 cd16 ct16), sl16⟩) (c16 : PySem.W.codeIn K cd16 "_law_without" = true) (k16 : PySem.W.keepIn K (.ref f16) = true)
    (a17 : PySem.W.nsIn K mainGlobals "_law_pair_right" = some (some (.ref f17))) (l17 : K.lookup f17 = some ⟨oc17, od17, .func (PySem.W.fnOf "_law_pair_right" "_law_pair_right" (defArgs sPair) (defBody sPair) (defScope sPair) .none kV17 dc17 pm17 an17 cd17 ct17), sl17⟩) (c17 : PySem.W.codeIn K cd17 "_law_pair_right" = true) (k17 : PySem.W.keepIn K (.ref f17) = true)
    (a18 : PySem.W.nsIn K mainGlobals "_law_right" = some (some (.ref f18))) (l18 : K.lookup f18 = some ⟨oc18, od18, .func (PySem.W.fnOf "_law_right" "_law_right" (defArgs sRight) (defBody sRight) (defScope sRight) .none kV18 dc18 pm18 an18 cd18 ct18), sl18⟩) (c18 : PySem.W.codeIn K cd18 "_law_right" = true) (k18 : PySem.W.keepIn K (.ref f18) = true)
    (a19 : PySem.W.nsIn K mainGlobals "law" = some (some (.ref f19))) (l19 : K.lookup f19 = some ⟨oc19, od19, .func (PySem.W.fnOf "law" "law" (defArgs sLaw) (defBody sLaw) (defScope sLaw) .none kV19 dc19 pm19 an19 cd19 ct19), sl19⟩) (c19 : PySem.W.codeIn K cd19 "law" = true) (k19 : PySem.W.keepIn K (.ref f19) = true)
    (z1 : PySem.W.nsIn K mainGlobals "len" = some none)
    (z2 : PySem.W.nsIn K mainGlobals "abs" = some none)
    (z3 : PySem.W.nsIn K mainGlobals "int" = some none)
    (z4 : PySem.W.nsIn K mainGlobals "list" = some none)
    (z5 : PySem.W.nsIn K mainGlobals "enumerate" = some none)
    (z6 : PySem.W.nsIn K mainGlobals "range" = some none)
    (z7 : PySem.W.nsIn K mainGlobals "zip" = some none)
    (z8 : PySem.W.nsIn K mainGlobals "isinstance" = some none)
    (z9 : PySem.W.nsIn K mainGlobals "tuple" = some none)
    (z10 : PySem.W.nsIn K mainGlobals "all" = some none)
    (z11 : PySem.W.nsIn K mainGlobals "str" = some none)
    (z12 : PySem.W.nsIn K mainGlobals "bool" = some none)
    (z13 : PySem.W.nsIn K mainGlobals "sorted" = some none)
    (z14 : PySem.W.nsIn K mainGlobals "max" = some none) :
    ∃ fd : FuncData, (∀ (s : Shared) (v : Value), BindsTo s fd ⟨[v], []⟩ [("_law_script", v)]) ∧ ∀ base : Heap, K.In base → base.Ns mainGlobals mg → FnOk l.prog w K mg base CX0 8 fa fd ["_law_script"] (spLaw K) := by
  have e := hfa.symm.trans (PySem.W.mg_of X G a19)
  cases e
  have F1 := fun_mk (st := sSettingsIn) l1 c1 k1
  have g1 := PySem.W.mg_of X G a1
  have b1 := F1.binds (ps := ["case"]) fun _ _ _ _ _ _ us hl => match us, hl with | [_], _ => rfl
  have F2 := fun_mk (st := sWhole) l2 c2 k2
  have g2 := PySem.W.mg_of X G a2
  have b2 := F2.binds (ps := ["facets"]) fun _ _ _ _ _ _ us hl => match us, hl with | [_], _ => rfl
  have F3 := fun_mk (st := sCommon) l3 c3 k3
  have g3 := PySem.W.mg_of X G a3
  have b3 := F3.binds (ps := ["one", "other"]) fun _ _ _ _ _ _ us hl => match us, hl with | [_, _], _ => rfl
  have F4 := fun_mk (st := sWithout) l4 c4 k4
  have g4 := PySem.W.mg_of X G a4
  have b4 := F4.binds (ps := ["one", "other"]) fun _ _ _ _ _ _ us hl => match us, hl with | [_, _], _ => rfl
  have F5 := fun_mk (st := sBoth) l5 c5 k5
  have g5 := PySem.W.mg_of X G a5
  have b5 := F5.binds (ps := ["words", "others"]) fun _ _ _ _ _ _ us hl => match us, hl with | [_, _], _ => rfl
  have F6 := fun_mk (st := sTape) l6 c6 k6
  have g6 := PySem.W.mg_of X G a6
  have b6 := F6.binds (ps := ["_law_script", "_law_k"]) fun _ _ _ _ _ _ us hl => match us, hl with | [_, _], _ => rfl
  have F7 := fun_mk (st := sDraw) l7 c7 k7
  have g7 := PySem.W.mg_of X G a7
  have b7 := F7.binds (ps := ["_law_tape_here", "_law_many"]) fun _ _ _ _ _ _ us hl => match us, hl with | [_, _], _ => rfl
  have F8 := fun_mk (st := sFolded) l8 c8 k8
  have g8 := PySem.W.mg_of X G a8
  have b8 := F8.binds (ps := ["_law_script", "_law_many"]) fun _ _ _ _ _ _ us hl => match us, hl with | [_, _], _ => rfl
  have F9 := fun_mk (st := sNames) l9 c9 k9
  have g9 := PySem.W.mg_of X G a9
  have b9 := F9.binds (ps := ["_law_tape_here", "_law_many"]) fun _ _ _ _ _ _ us hl => match us, hl with | [_, _], _ => rfl
  have F10 := fun_mk (st := sPart) l10 c10 k10
  have g10 := PySem.W.mg_of X G a10
  have b10 := F10.binds (ps := ["_law_tape_here", "_law_some", "_law_many"]) fun _ _ _ _ _ _ us hl => match us, hl with | [_, _, _], _ => rfl
  have F11 := fun_mk (st := sSame) l11 c11 k11
  have g11 := PySem.W.mg_of X G a11
  have b11 := F11.binds (ps := ["_law_found", "_law_due"]) fun _ _ _ _ _ _ us hl => match us, hl with | [_, _], _ => rfl
  have F12 := fun_mk (st := sFacets) l12 c12 k12
  have g12 := PySem.W.mg_of X G a12
  have b12 := F12.binds (ps := ["_law_tape_here", "_law_many", "_law_most"]) fun _ _ _ _ _ _ us hl => match us, hl with | [_, _, _], _ => rfl
  have F13 := fun_mk (st := sLSettings) l13 c13 k13
  have g13 := PySem.W.mg_of X G a13
  have b13 := F13.binds (ps := ["_law_some"]) fun _ _ _ _ _ _ us hl => match us, hl with | [_], _ => rfl
  have F14 := fun_mk (st := sCase) l14 c14 k14
  have g14 := PySem.W.mg_of X G a14
  have b14 := F14.binds (ps := ["_law_tape_here", "_law_a_facets"]) fun _ _ _ _ _ _ us hl => match us, hl with | [_, _], _ => rfl
  have F15 := fun_mk (st := sLCommon) l15 c15 k15
  have g15 := PySem.W.mg_of X G a15
  have b15 := F15.binds (ps := ["_law_a_one", "_law_a_other"]) fun _ _ _ _ _ _ us hl => match us, hl with | [_, _], _ => rfl
  have F16 := fun_mk (st := sLWithout) l16 c16 k16
  have g16 := PySem.W.mg_of X G a16
  have b16 := F16.binds (ps := ["_law_a_one", "_law_a_other"]) fun _ _ _ _ _ _ us hl => match us, hl with | [_, _], _ => rfl
  have F17 := fun_mk (st := sPair) l17 c17 k17
  have g17 := PySem.W.mg_of X G a17
  have b17 := F17.binds (ps := ["_law_a_one", "_law_a_other"]) fun _ _ _ _ _ _ us hl => match us, hl with | [_, _], _ => rfl
  have F18 := fun_mk (st := sRight) l18 c18 k18
  have g18 := PySem.W.mg_of X G a18
  have b18 := F18.binds (ps := ["_law_tape_here"]) fun _ _ _ _ _ _ us hl => match us, hl with | [_], _ => rfl
  have F19 := fun_mk (st := sLaw) l19 c19 k19
  have g19 := PySem.W.mg_of X G a19
  have mlen := PySem.W.mg_none_of X G z1
  have mabs := PySem.W.mg_none_of X G z2
  have mint := PySem.W.mg_none_of X G z3
  have mlist := PySem.W.mg_none_of X G z4
  have menumerate := PySem.W.mg_none_of X G z5
  have mrange := PySem.W.mg_none_of X G z6
  have mzip := PySem.W.mg_none_of X G z7
  have misinstance := PySem.W.mg_none_of X G z8
  have mtuple := PySem.W.mg_none_of X G z9
  have mall := PySem.W.mg_none_of X G z10
  have mstr := PySem.W.mg_none_of X G z11
  have mbool := PySem.W.mg_none_of X G z12
  have msorted := PySem.W.mg_none_of X G z13
  have mmax := PySem.W.mg_none_of X G z14
  have kC := kb_swap F3 (a := "one") (b := "other") fun _ _ _ _ _ _ _ _ => rfl
  have kW := kb_swap F4 (a := "one") (b := "other") fun _ _ _ _ _ _ _ _ => rfl
  have kH := kb_one F2 (a := "facets") fun _ _ _ _ _ _ _ => rfl
  have kI := kb_one F1 (a := "case") fun _ _ _ _ _ _ _ => rfl
  refine ⟨PySem.W.fnOf "law" "law" (defArgs sLaw) (defBody sLaw) (defScope sLaw) .none kV19 dc19 pm19 an19 cd19 ct19, fun s v => .of_eq rfl, fun base _ _ => ?_⟩
  have GP : FnOk l.prog w K mg base CX0 6 f17 _ ["_law_a_one", "_law_a_other"] spPair := ok_pair F17 F11 b11 g11 ((fun n => ok_same F11 b11 g11 misinstance mlist mtuple mlen mall mzip mstr mbool mint n) 5) F3 b3 kC g3 (ok_common (k := 3) F3 F5 b5 g5 mtuple mzip) F4 b4 kW g4 (ok_without (k := 2) F4 F3 b3 g3 F5 b5 g5 mtuple mzip menumerate) F15 b15 g15 (ok_lcommon (k := 4) F15 mtuple mzip) F16 b16 g16 (ok_lwithout (k := 3) F16 F15 b15 g15 mtuple mzip mrange mlen)
  have GR : FnOk l.prog w K mg base CX0 7 f18 _ ["_law_tape_here"] spRight := ok_right F18 F7 b7 g7 (ok_draw (k := 5) F7) F12 b12 g12 (ok_facets (k := 3) F12 F7 b7 g7 F9 b9 g9 mlen mrange mint msorted mtuple) F11 b11 g11 ((fun n => ok_same F11 b11 g11 misinstance mlist mtuple mlen mall mzip mstr mbool mint n) 6) F2 b2 kH g2 (ok_whole (k := 5) F2 mtuple) F14 b14 g14 (ok_case (k := 3) F14 F7 b7 g7 F10 b10 g10 mlen mrange mlist msorted mtuple) F1 b1 kI g1 (ok_settings_in (k := 5) F1) F13 b13 g13 (ok_lsettings (k := 5) F13) F17 b17 g17 GP F4 b4 g4 (ok_without (k := 3) F4 F3 b3 g3 F5 b5 g5 mtuple mzip menumerate) mlen mrange mint mtuple
  exact ok_law F19 F8 b8 g8 (ok_folded (k := 6) F8 mlist menumerate) F6 b6 g6 (ok_tape (k := 6) F6 mlen mabs mint) F18 b18 g18 GR mlen mrange mall mmax
end Sg

open PySem PySem.W PyProof.Rows
set_option maxRecDepth 100000 in
set_option maxHeartbeats 0 in
theorem PySem.Challenge.cw_sheafbooks_k02_settings_of_cases_holds : PySem.Challenge.rw_sheafbooks_k02_settings_of_cases.Holds := by
  w_on; o_law; k_head; (case hw => w_witness2)
  k_fill
  refine L2.walk_of (l := PySem.Challenge.rw_sheafbooks_k02_settings_of_cases) (n := 63) (k := 8) (x := "_law_script") (CX := fun _ => L2.CX0) (sp := fun w => Sg.spLaw _) rfl (by decide) rfl ⟨rfl, by decide, by decide⟩ (fun w h Y => PySem.W.kIn_of Y) ?F (fun _ _ a ns hl _ hS => ⟨a, ns, rfl, hS, hl, fun _ => rfl⟩) (fun _ _ _ _ _ h => h)
  case F =>
    intro w mg fa h KX G hmg
    refine' Sg.all_mk KX G hmg ?a1 ?l1 ?c1 ?k1 ?a2 ?l2 ?c2 ?k2 ?a3 ?l3 ?c3 ?k3 ?a4 ?l4 ?c4 ?k4 ?a5 ?l5 ?c5 ?k5 ?a6 ?l6 ?c6 ?k6 ?a7 ?l7 ?c7 ?k7 ?a8 ?l8 ?c8 ?k8 ?a9 ?l9 ?c9 ?k9 ?a10 ?l10 ?c10 ?k10 ?a11 ?l11 ?c11 ?k11 ?a12 ?l12 ?c12 ?k12 ?a13 ?l13 ?c13 ?k13 ?a14 ?l14 ?c14 ?k14 ?a15 ?l15 ?c15 ?k15 ?a16 ?l16 ?c16 ?k16 ?a17 ?l17 ?c17 ?k17 ?a18 ?l18 ?c18 ?k18 ?a19 ?l19 ?c19 ?k19 ?z1 ?z2 ?z3 ?z4 ?z5 ?z6 ?z7 ?z8 ?z9 ?z10 ?z11 ?z12 ?z13 ?z14
    (case a1 => k_is); (case l1 => k_is); (case c1 => k_is); (case k1 => k_is); (case a2 => k_is); (case l2 => k_is); (case c2 => k_is); (case k2 => k_is); (case a3 => k_is); (case l3 => k_is); (case c3 => k_is); (case k3 => k_is); (case a4 => k_is); (case l4 => k_is); (case c4 => k_is); (case k4 => k_is); (case a5 => k_is); (case l5 => k_is); (case c5 => k_is); (case k5 => k_is); (case a6 => k_is); (case l6 => k_is); (case c6 => k_is); (case k6 => k_is); (case a7 => k_is); (case l7 => k_is); (case c7 => k_is); (case k7 => k_is); (case a8 => k_is); (case l8 => k_is); (case c8 => k_is); (case k8 => k_is); (case a9 => k_is); (case l9 => k_is); (case c9 => k_is); (case k9 => k_is); (case a10 => k_is); (case l10 => k_is); (case c10 => k_is); (case k10 => k_is); (case a11 => k_is); (case l11 => k_is); (case c11 => k_is); (case k11 => k_is); (case a12 => k_is); (case l12 => k_is); (case c12 => k_is); (case k12 => k_is); (case a13 => k_is); (case l13 => k_is); (case c13 => k_is); (case k13 => k_is); (case a14 => k_is); (case l14 => k_is); (case c14 => k_is); (case k14 => k_is); (case a15 => k_is); (case l15 => k_is); (case c15 => k_is); (case k15 => k_is); (case a16 => k_is); (case l16 => k_is); (case c16 => k_is); (case k16 => k_is); (case a17 => k_is); (case l17 => k_is); (case c17 => k_is); (case k17 => k_is); (case a18 => k_is); (case l18 => k_is); (case c18 => k_is); (case k18 => k_is); (case a19 => k_is); (case l19 => k_is); (case c19 => k_is); (case k19 => k_is); (case z1 => k_is); (case z2 => k_is); (case z3 => k_is); (case z4 => k_is); (case z5 => k_is); (case z6 => k_is); (case z7 => k_is); (case z8 => k_is); (case z9 => k_is); (case z10 => k_is); (case z11 => k_is); (case z12 => k_is); (case z13 => k_is); (case z14 => k_is)

