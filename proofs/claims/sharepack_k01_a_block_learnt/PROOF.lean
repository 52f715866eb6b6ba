import PyProof.Rows.All
import Wide.All
import OpenK.AllK
import Wide.FinOn
import HandS.ForMost
import HandS.Evl
import HandS.Walk
import HandS.IsInst
import HandS.RevRange
import HandS.Gcd
import PySem.Challenge.RW_sharepack_k01_a_block_learnt
set_option Elab.async false
set_option linter.all false
set_option maxRecDepth 100000
set_option maxHeartbeats 4000000
set_option maxHeartbeats 4000000
namespace SP
open PySem L2 Evl

/-- a def of the module, ready to be called -/
structure Cal (P : Program) (w : World) (K : PySem.W.Frag) (mg : Str → Option Value) (base : Heap) (x : Str) (ps : List Str) (k : Nat) (sp : Sp) : Prop where
  ex : ∃ f fd, FnOk P w K mg base CX0 k f fd ps sp ∧ mg x = some (.ref f) ∧ PySem.W.keepIn K (.ref f) = true ∧ Binds K fd ps []

section
variable {X : Cx} {x : Str} {ps : List Str} {k k' : Nat} {sp : Sp} {p pos : Pos} {e : Expr} {es : List Expr} {t : TA}
theorem pe_cal (C : Cal X.prog X.w X.K X.mg X.base x ps k sp) (hr : Room k' X.A) (hk : k ≤ k') (hg : Gl X x) (ha : PA X (e :: es) t)
    (hdb : (x == ("__debug__" : Str)) = false := by decide) (he : starEach (e :: es) X.env = (false, eval e X.env) :: starEach es X.env := by rfl) (hpl : (backTo pos (starEach es X.env)).any (·.1) = false := by rfl) :
    PE X (.Call (.Name x p) (e :: es) [] pos) (tCall sp [] E0 t) := by
  obtain ⟨f, fd, G, m, kp, b⟩ := C.ex
  exact pe_call G (hr.mono hk) hg m kp b .nil pass0 ha hdb he hpl
end

theorem pe_globX {X : Cx} {x : Str} {v : V} {pos : Pos} (hg : Gl X x) (h : ∃ u, X.mg x = some u ∧ RelV v u) (hd : (x == ("__debug__" : Str)) = false := by decide) : PE X (.Name x pos) (tC v) := by
  obtain ⟨u, hm, r⟩ := h
  exact pe_glob hg hm r hd
section
variable {K : PySem.W.Frag} {σ : L2.St} {H H' : Hp} {ta tb te tx : TE} {t u : TT} {x y z v : V} {r : R2}
theorem ev_cal {sp : Sp} {vs : List V} {E : XK} {ta : TA} (h : EvA ta σ H vs) (hs : SpV sp vs H z) : Ev (tCall sp [] E ta) σ H z :=
  ev_call h (by rw [List.append_nil]; exact hs)
theorem el_cal {sp : Sp} {vs xs : List V} {E : XK} {ta : TA} (h : EvA ta σ H vs) (hs : SpL sp vs H xs) : EvL (tCall sp [] E ta) σ H xs :=
  el_call h (by rw [List.append_nil]; exact hs)
theorem rv_fdiv {i j : Int} (hc : 0 < j ∧ j < 1073741824) : RV (rI CDiv fun i j => .int (i / j)) (.int i) (.int j) H (.int (i / j)) := rv_I hc
theorem rv_mod {i j : Int} (hc : 0 < j) : RV (rI (fun _ j => 0 < j) fun i j => .int (i % j)) (.int i) (.int j) H (.int (i % j)) := rv_I (C := fun _ j => 0 < j) hc
theorem rv_mul {i j : Int} (hc : CMul i j) : RV (rI CMul fun i j => .int (i * j)) (.int i) (.int j) H (.int (i * j)) := rv_I hc
theorem rv_addS {i j : Str} (h : i.length + j.length ≤ sizeLine) : RV (fun x y H Q => ∃ i j, x = .str i ∧ y = .str j ∧ i.length + j.length ≤ sizeLine ∧ Q (.str (i ++ j)) H) (.str i) (.str j) H (.str (i ++ j)) :=
  fun H1 _ _ q => ⟨i, j, rfl, rfl, h, q H1 (Ex.refl H1)⟩
/-- len of a list | a text -/
theorem ev_lenL {K : PySem.W.Frag} {p : Addr} {xs : List V} (ha : Ev ta σ H (.ref p)) (h : SqL K H p xs) : Ev (tCB (rLenS K) (tCons ta tNil)) σ H (.int (xs.length : Int)) := ev_len ha h
theorem ev_lenZ {z : Str} (ha : Ev ta σ H (.str z)) (h : z.length ≤ sizeLine) : Ev (tCB (fun xs H Q => ∃ z, xs = [.str z] ∧ z.length ≤ sizeLine ∧ Q (.int z.length) H) (tCons ta tNil)) σ H (.int (z.length : Int)) := fun H1 e Q q =>
  ha H1 e _ fun H2 e2 => ⟨z, rfl, h, q H2 e2⟩
/-- isinstance(x, T), T a built-in class -/
theorem ev_isi {n a : String} {b : Bool} (ha : Ev ta σ H x) (hb : Ev tb σ H (.ty n)) (ht : ∀ H1, Ex H H1 → TyX K H1 x (.type a)) (h : kitB a n = some b) : Ev (tCB (rIsi K) (tCons ta (tCons tb tNil))) σ H (.bl b) := fun H1 e Q q =>
  ha H1 e _ fun H2 e2 => hb H2 (e.trans e2) _ fun H3 e3 => ⟨x, .ty n, .type a, .type n, b, rfl, .ty n, ht H3 ((e.trans e2).trans e3), kit_ty h, q H3 (e2.trans e3)⟩
theorem ty_int {i : Int} : TyX K H (.int i) (.type "int") := .base (.int i)
theorem ty_lst {a : Addr} {xs : List V} (e : H a = some (.lst xs)) : TyX K H (.ref a) (.type "list") := .base (.lst e)
theorem ty_tup {a : Addr} {xs : List V} (e : H a = some (.tup xs)) : TyX K H (.ref a) (.type "tuple") := .base (.tup e)
theorem ty_str {z : Str} : TyX K H (.str z) (.type "str") := .base (.str z)
/-- list(x) of a list -/
theorem el_listof {p : Addr} {xs : List V} (ha : Ev ta σ H (.ref p)) (h : SqL K H p xs) : EvL (tCB (rListS K) (tCons ta tNil)) σ H xs := el_list ha h
/-- sum of a list of ints -/
theorem ev_sum {p : Addr} {ns : List Int} (ha : Ev ta σ H (.ref p)) (h : SqL K H p (ns.map V.int)) : Ev (tCB (rSum K) (tCons ta tNil)) σ H (.int ns.sum) := fun H1 e Q q =>
  ha H1 e _ fun H2 e2 => ⟨p, ns, rfl, ex_l (e.trans e2) h, q H2 e2⟩
theorem ev_sumN {ns : List Int} (ha : EvL ta σ H (ns.map V.int)) : Ev (tCB (rSum K) (tCons ta tNil)) σ H (.int ns.sum) := fun H1 e Q q =>
  ha H1 e _ fun p H2 _ e2 h2 => ⟨p, ns, rfl, sq_of h2, q H2 e2⟩
/-- a < b < c over ints -/
theorem ev_chain {p q : Int → Int → Bool} {i j k : Int} {tc : TE} (ha : Ev ta σ H (.int i)) (hb : Ev tb σ H (.int j)) (hc : Ev tc σ H (.int k)) :
    Ev (tChain (rI0 fun i j => .bl (p i j)) (rI0 fun i j => .bl (q i j)) ta tb tc) σ H (.bl (p i j && q j k)) := fun H1 e Q h =>
  ha H1 e _ fun H2 e2 => hb H2 (e.trans e2) _ fun H3 e3 => ⟨i, j, rfl, rfl, p i j, rfl, by
    cases hp : p i j with
    | true =>
      show tc σ H3 _
      exact hc H3 ((e.trans e2).trans e3) _ fun H4 e4 => ⟨j, k, rfl, rfl, (by
        have h4 := h H4 ((e2.trans e3).trans e4)
        rw [hp] at h4
        exact h4)⟩
    | false =>
      show Q (.bl false) H3
      have := h H3 (e2.trans e3)
      rw [hp] at this
      exact this⟩
theorem spv {sp : Sp} {vs : List V} (h : ∀ H1, Ex H H1 → ∀ (Q : VK) (E : XK), RetV z H1 Q → sp vs H1 Q E) : SpV sp vs H z := fun H1 e Q q E => h H1 e Q E q
theorem spl {sp : Sp} {vs xs : List V} (h : ∀ H1, Ex H H1 → ∀ (Q : VK) (E : XK), RetL xs H1 Q → sp vs H1 Q E) : SpL sp vs H xs := fun H1 e Q q E => h H1 e Q E q
/-- return f(x, y), y a new list -/
theorem s_retArg2L {D : Ends} {sp : Sp} {E : XK} {p : Addr} {ys : List V} (ha : Ev ta σ H (.ref p)) (hb : EvL tb σ H ys) (hs : ∀ r H1, Ex H H1 → H1 r = some (.lst ys) → SpV sp [.ref p, .ref r] H1 z) (k : ∀ H1, Ex H H1 → D.rt z H1) :
    tRet (tCall sp [] E (tCons ta (tCons tb tNil))) D σ H :=
  ha H (Ex.refl H) _ fun H1 e1 => hb H1 e1 _ fun r H2 _ e2 h2 => hs r H2 (e1.trans e2) h2 H2 (Ex.refl H2) _ (fun H3 e3 => k H3 ((e1.trans e2).trans e3)) E
/-- the script's cell at a place, 0 behind its end -/
def cel (ns : List Int) (j : Nat) : Int := ns.getD j 0
theorem cel_in {ns : List Int} {j : Nat} (h : j < ns.length) : atI (ns.map V.int) ((j : Nat) : Int) = some (V.int (cel ns j)) := by
  refine atI_nat ?_
  unfold cel
  rw [List.getElem?_map, List.getElem?_eq_getElem h, List.getD_eq_getElem?_getD, List.getElem?_eq_getElem h]
  rfl
theorem cel_out {ns : List Int} {j : Nat} (h : ¬ j < ns.length) : cel ns j = 0 := by
  unfold cel
  rw [List.getD_eq_getElem?_getD, List.getElem?_eq_none (by omega)]
  rfl
/-- the item of a list of ints -/
theorem int_at {ns : List Int} {n : Nat} {x : V} (hx : (ns.map V.int)[n]? = some x) : ∃ z : Int, x = V.int z ∧ ns[n]? = some z := by
  rw [List.getElem?_map] at hx
  cases hz : ns[n]? with
  | none => rw [hz] at hx; cases hx
  | some z => rw [hz] at hx; exact ⟨z, (Option.some.inj hx).symm, rfl⟩
/-! comprehensions without a test: the whole list that they make -/
def Cm (H : Hp) (ys : List V) (Dl : Addr) (i : Nat) (H' : Hp) : Prop := H Dl = none ∧ Ex H H' ∧ H' Dl = some (.lst (ys.take i))
theorem take_snoc {ys : List V} {i : Nat} {y : V} (h : ys[i]? = some y) : ys.take (i + 1) = ys.take i ++ [y] := by
  rw [List.take_add_one, h]
  rfl
theorem cm_turn {H H' H2 : Hp} {ys : List V} {Dl : Addr} {i : Nat} {σ2 : L2.St} {y : V} (p : Cm H ys Dl i H') (e2 : Ex H' H2) (hi : ys[i]? = some y) (hz : ys.length ≤ 50000) (he : Ev te σ2 H y) :
    te σ2 H2 fun y H4 => ∃ acc, H4 Dl = some (.lst acc) ∧ acc.length < sizeLine ∧ Cm H ys Dl (i + 1) (upd H4 Dl (.lst (acc ++ [y]))) := by
  obtain ⟨p1, p2, p3⟩ := p
  refine he H2 (p2.trans e2) _ fun H4 e4 => ⟨ys.take i, e4 Dl _ (e2 Dl _ p3), sz_lt ?_, p1, Ex.mut ((p2.trans e2).trans e4) p1, ?_⟩
  · rw [List.length_take]
    omega
  · rw [take_snoc hi]
    exact upd_same
theorem cm_end {H H' : Hp} {ys : List V} {Dl : Addr} {n : Nat} (p : Cm H ys Dl n H') (hn : ys.length = n) : H' Dl = some (.lst ys) := by
  have := p.2.2
  rwa [List.take_of_length_le (by omega)] at this
theorem get_of {ys : List V} {i n : Nat} (hn : ys.length = n) (hi : i < n) : ∃ y, ys[i]? = some y := ⟨ys[i], List.getElem?_eq_getElem (by omega)⟩
/-- over a list -/
theorem el_mapL {a : Addr} {xs : List V} {tl : TE} {j : Nat} {vs : List Nat} (ys : List V) (h : Ev tl σ H (.ref a)) (hx : SqL K H a xs) (hn : ys.length = xs.length) (hz : xs.length ≤ 40000) (hw : ∀ x, wipe ((wipe σ vs).set j (some x)) vs = wipe σ vs)
    (he : ∀ (i : Nat) (x y : V) H1, Ex H H1 → xs[i]? = some x → ys[i]? = some y → Ev te ((wipe σ vs).set j (some x)) H1 y) : EvL (tLc (iList K tl) (gName j) tYes te vs) σ H ys := fun H0 e Q q => h H0 e _ fun H1 e1 => ⟨a, rfl, ⟨xs, ex_l (e.trans e1) hx⟩, fun Dl hD =>
  lc_list (xs := xs) (Cm H1 ys Dl) ⟨hD, Ex.new hD, upd_same⟩ (fun i H' _ p => ex_l ((e.trans e1).trans p.2.1) hx) (fun i x H' hi p => by
    obtain ⟨y, hy⟩ := get_of hn (List.getElem?_eq_some_iff.mp hi).1
    refine ⟨hw x, ?_⟩
    show te _ H' _
    exact cm_turn p (Ex.refl _) hy (by omega) (he i x y H1 (e.trans e1) hi hy)) (fun H' p => q Dl H' (fresh_back e1 p.1) (e1.trans p.2.1) (cm_end p hn))⟩
/-- over a range from 0 -/
theorem el_mapR {ta : TA} {j : Nat} {vs : List Nat} {n : Int} (ys : List V) (h : EvA ta σ H [.int n]) (hn : 0 ≤ n ∧ n ≤ 40000) (hl : ys.length = n.toNat) (hw : ∀ x, wipe ((wipe σ vs).set j (some x)) vs = wipe σ vs)
    (he : ∀ (i : Nat) (y : V) H1, Ex H H1 → (i : Int) < n → ys[i]? = some y → Ev te ((wipe σ vs).set j (some (.int (i : Int)))) H1 y) : EvL (tLc (iRng1 ta) (gName j) tYes te vs) σ H ys := fun H0 e Q q => h H0 e _ fun H1 e1 => ⟨n, rfl, by omega, by omega, fun Dl hD =>
  lc_range (lo := 0) (n := n.toNat) (Cm H1 ys Dl) ⟨hD, Ex.new hD, upd_same⟩ (fun i H' hi p => by
    obtain ⟨y, hy⟩ := get_of hl hi
    have e0 : (0 : Int) + (i : Int) = (i : Int) := Int.zero_add _
    show wipe ((wipe σ vs).set j (some (.int ((0 : Int) + (i : Int))))) vs = wipe σ vs ∧ te ((wipe σ vs).set j (some (.int ((0 : Int) + (i : Int))))) H' _
    rw [e0]
    exact ⟨hw _, cm_turn p (Ex.refl _) hy (by omega) (he i y H1 (e.trans e1) (by omega) hy)⟩) (fun H' p => q Dl H' (fresh_back e1 p.1) (e1.trans p.2.1) (cm_end p hl))⟩
/-- over zip of two lists, the target two names -/
theorem el_mapZ {ta : TA} {a b : Addr} {xs zs : List V} {i j : Nat} {vs : List Nat} (ys : List V) (h : EvA ta σ H [.ref a, .ref b]) (hx : SqL K H a xs) (hx2 : SqL K H b zs) (hl : xs.length = zs.length) (hn : ys.length = xs.length) (hz : xs.length ≤ 40000)
    (hw : ∀ x y, wipe (((wipe σ vs).set i (some x)).set j (some y)) vs = wipe σ vs)
    (he : ∀ (k : Nat) (x z y : V) H1, Ex H H1 → xs[k]? = some x → zs[k]? = some z → ys[k]? = some y → Ev te (((wipe σ vs).set i (some x)).set j (some z)) H1 y) : EvL (tLc (iZip K ta) (gTup K 2 (gCons (gName i) (gCons (gName j) gNil))) tYes te vs) σ H ys := fun H0 e Q q => h H0 e _ fun H1 e1 =>
  ⟨a, b, xs, zs, rfl, ex_l (e.trans e1) hx, ex_l (e.trans e1) hx2, fun Dl hD =>
  lc_it (walk_zip (n := xs.length) (by omega)) (Cm H1 ys Dl) ⟨hD, Ex.new hD, upd_same⟩ (fun k H' _ p => ⟨ex_l ((e.trans e1).trans p.2.1) hx, ex_l ((e.trans e1).trans p.2.1) hx2⟩) (fun k v H' H2 hk p yy => by
    obtain ⟨T, x, z, rfl, hT, rfl, g1, g2⟩ := yy
    obtain ⟨y, hy⟩ := get_of hn hk
    refine ⟨T, [x, z], rfl, st_of upd_same, rfl, x, [z], rfl, z, [], rfl, rfl, hw x z, ?_⟩
    show te _ _ _
    exact cm_turn p (Ex.new hT) hy (by omega) (he k x z y H1 (e.trans e1) g1 g2 hy)) (fun H' p => q Dl H' (fresh_back e1 p.1) (e1.trans p.2.1) (cm_end p hn))⟩
/-- a loop over zip of two lists, the target two names -/
theorem q_forZ {tz : TS} {D : Ends} {ta : TA} {tu : TS} {a b : Addr} {xs ys : List V} {i j : Nat} (h : EvA ta σ H [.ref a, .ref b]) (hx : SqL K H a xs) (hy : SqL K H b ys) (hl : xs.length = ys.length) (Pv : Nat → L2.St → Hp → Prop) (h0 : ∀ H1, Ex H H1 → Pv 0 σ H1)
    (hq : ∀ i σ' H', Pv i σ' H' → Ex H H')
    (hs : ∀ (n : Nat) (x y : V) (σ' : L2.St) (H' H2 : Hp), xs[n]? = some x → ys[n]? = some y → Pv n σ' H' → Ex H' H2 → tu { D with nx := Pv (n + 1), ct := Pv (n + 1), bk := tz D } ((σ'.set i (some x)).set j (some y)) H2) (hd : ∀ σ' H', Pv xs.length σ' H' → tz D σ' H') :
    tSeq (tFor (iZip K ta) (gTup K 2 (gCons (gName i) (gCons (gName j) gNil))) tu) tz D σ H :=
  h H (Ex.refl H) _ fun H1 e => ⟨a, b, xs, ys, rfl, ex_l e hx, ex_l e hy, for_it (walk_zip (n := xs.length) (by omega)) Pv (h0 H1 e) (fun k σ' H' _ p => ⟨ex_l (hq _ _ _ p) hx, ex_l (hq _ _ _ p) hy⟩) (fun n v σ' H' H2 hn p y => by
    obtain ⟨T, x, z, rfl, hT, rfl, e1, e2⟩ := y
    exact ⟨T, [x, z], rfl, st_of upd_same, rfl, x, [z], rfl, z, [], rfl, rfl, hs n x z σ' H' _ e1 e2 p (Ex.new hT)⟩) hd⟩
end
end SP

namespace SP
open PySem L2 Evl
def top (i : Nat) : Stmt := PySem.Challenge.pw_sharepack_k01_a_block_learnt.main.body.getD i (.Pass ⟨0, 0, 0, 0⟩)
abbrev s_is_whole : Stmt := top 4
theorem sc_is_whole : FnScope ["value", "low", "high"] ["value", "low", "high"] (defScope s_is_whole) := ⟨rfl, rfl, rfl, by decide +kernel, rfl, by decide +kernel, by decide +kernel⟩
abbrev s_check_shares : Stmt := top 9
theorem sc_check_shares : FnScope ["shares", "share"] ["shares"] (defScope s_check_shares) := ⟨rfl, rfl, rfl, by decide +kernel, rfl, by decide +kernel, by decide +kernel⟩
abbrev s_check_counts : Stmt := top 10
theorem sc_check_counts : FnScope ["counts", "many", "count"] ["counts", "many"] (defScope s_check_counts) := ⟨rfl, rfl, rfl, by decide +kernel, rfl, by decide +kernel, by decide +kernel⟩
abbrev s_check_cap : Stmt := top 11
theorem sc_check_cap : FnScope ["cap", "many"] ["cap", "many"] (defScope s_check_cap) := ⟨rfl, rfl, rfl, by decide +kernel, rfl, by decide +kernel, by decide +kernel⟩
abbrev s_learnt : Stmt := top 12
theorem sc_learnt : FnScope ["shares", "counts", "cap", "grown", "share", "count"] ["shares", "counts", "cap"] (defScope s_learnt) := ⟨rfl, rfl, rfl, by decide +kernel, rfl, by decide +kernel, by decide +kernel⟩
abbrev s_whole : Stmt := top 14
theorem sc_whole : FnScope ["_law_found"] ["_law_found"] (defScope s_whole) := ⟨rfl, rfl, rfl, by decide +kernel, rfl, by decide +kernel, by decide +kernel⟩
abbrev s_cell_at : Stmt := top 15
theorem sc_cell_at : FnScope ["_law_script", "_law_k"] ["_law_script", "_law_k"] (defScope s_cell_at) := ⟨rfl, rfl, rfl, by decide +kernel, rfl, by decide +kernel, by decide +kernel⟩
abbrev s_share_by : Stmt := top 16
theorem sc_share_by : FnScope ["_law_cell"] ["_law_cell"] (defScope s_share_by) := ⟨rfl, rfl, rfl, by decide +kernel, rfl, by decide +kernel, by decide +kernel⟩
abbrev s_many_by : Stmt := top 17
theorem sc_many_by : FnScope ["_law_cell"] ["_law_cell"] (defScope s_many_by) := ⟨rfl, rfl, rfl, by decide +kernel, rfl, by decide +kernel, by decide +kernel⟩
abbrev s_numbers_alike : Stmt := top 18
theorem sc_numbers_alike : FnScope ["_law_found", "_law_due", "_law_one", "_law_own"] ["_law_found", "_law_due"] (defScope s_numbers_alike) := ⟨rfl, rfl, rfl, by decide +kernel, rfl, by decide +kernel, by decide +kernel⟩
abbrev s_learnt_by : Stmt := top 19
theorem sc_learnt_by : FnScope ["_law_shares", "_law_counts", "_law_cap", "_law_found", "_law_one", "_law_more"] ["_law_shares", "_law_counts", "_law_cap"] (defScope s_learnt_by) := ⟨rfl, rfl, rfl, by decide +kernel, rfl, by decide +kernel, by decide +kernel⟩
abbrev s_law : Stmt := top 20
theorem sc_law : FnScope ["_law_script", "_law_many", "_law_shares", "_law_counts", "_law_cap", "_law_ones", "_law_others", "_law_found", "_law_k"] ["_law_script"] (defScope s_law) := ⟨rfl, rfl, rfl, by decide +kernel, rfl, by decide +kernel, by decide +kernel⟩
structure Txt (K : PySem.W.Frag) (mg : Str → Option Value) : Prop where
  b_bool : mg "bool" = none
  b_int : mg "int" = none
  b_isinstance : mg "isinstance" = none
  b_len : mg "len" = none
  b_list : mg "list" = none
  b_range : mg "range" = none
  b_sum : mg "sum" = none
  b_zip : mg "zip" = none
  g_GREATEST_CAP : ∃ u, mg "GREATEST_CAP" = some u ∧ RelV (.int 1000000) u
  g_GREATEST_SHARE : ∃ u, mg "GREATEST_SHARE" = some u ∧ RelV (.int 1000000000000) u
  g_MOST_SHARES : ∃ u, mg "MOST_SHARES" = some u ∧ RelV (.int 40) u
section
variable {P : Program} {w : World} {K : PySem.W.Frag} {mg : Str → Option Value} {base : Heap}
def sp_isw : Sp := fun vs H Q _ => ∃ v lo hi : Int, vs = [.int v, .int lo, .int hi] ∧ lo ≤ v ∧ v ≤ hi ∧ RetV (.bl true) H Q
theorem ok_is_whole {f : Addr} {fd : FuncData} (T : Txt K mg) (F : Fun K "is_whole" "is_whole" s_is_whole f fd) : FnOk P w K mg base CX0 1 f fd ["value", "low", "high"] sp_isw := by
  refine F.ok sc_is_whole (fun vs H Q E h => by obtain ⟨v, lo, hi, rfl, _⟩ := h; rfl) (fun cdv A outer s H vs Q E hr h => ?_)
  obtain ⟨v, lo, hi, rfl, h1, h2, q⟩ := h
  refine ⟨_, (pss_cons (ps_if (PW.pt (pw_or (pt_val (pe_callB call_isi (by rfl) T.b_isinstance (by decide +kernel) (pa_cons (pv 0) (pa_cons (pe_bltn (v := .ty "bool") (by rfl) T.b_bool (by decide +kernel) rfl) pa_nil)))) (pw_or1 (pt_not (pt_val (pe_callB call_isi (by rfl) T.b_isinstance (by decide +kernel) (pa_cons (pv 0) (pa_cons (pe_bltn (v := .ty "int") (by rfl) T.b_int (by decide +kernel) rfl) pa_nil)))))))) (pss_one (ps_ret pe_bl)) pss_nil)
      (pss_one (ps_ret (pe_chain op_le op_le (pv 1) (pv 0) (pv 2))))), ?_⟩
  refine q_when (b := false) (et_or (a := false) (et_B (ev_isi (ev_var rfl) ev_c (fun _ _ => ty_int) (by decide +kernel))) fun _ => et_not (a := true) (et_B (ev_isi (ev_var rfl) ev_c (fun _ _ => ty_int) (by decide +kernel)))) (fun hx => nomatch hx) (fun _ H1 e1 => ?_)
  refine s_ret (ev_is (ev_chain (ev_var rfl) (ev_var rfl) (ev_var rfl)) (w := .bl true) ?_) fun H2 e2 => q H2 (e1.trans e2)
  rw [decide_eq_true h1, decide_eq_true h2]
  rfl
def Shares (ns : List Int) : Prop := 1 ≤ ns.length ∧ ns.length ≤ 40 ∧ ∀ n ∈ ns, 1 ≤ n ∧ n ≤ 1000000000000
def sp_chkS (K : PySem.W.Frag) : Sp := fun vs H Q _ => ∃ (a : Addr) (ns : List Int), vs = [.ref a] ∧ H a = some (.lst (ns.map V.int)) ∧ Shares ns ∧ RetV .non H Q
theorem spv_chkS {H : Hp} {a : Addr} {ns : List Int} (ha : H a = some (.lst (ns.map V.int))) (hs : Shares ns) : SpV (sp_chkS K) [.ref a] H .non :=
  spv fun H1 e1 Q E q => ⟨a, ns, rfl, e1 _ _ ha, hs, q⟩
theorem ok_check_shares {f : Addr} {fd : FuncData} (T : Txt K mg) (F : Fun K "check_shares" "check_shares" s_check_shares f fd) (C_is_whole : Cal P w K mg base "is_whole" ["value", "low", "high"] 1 sp_isw) : FnOk P w K mg base CX0 2 f fd ["shares"] (sp_chkS K) := by
  refine F.ok sc_check_shares (fun vs H Q E h => by obtain ⟨a, ns, rfl, _⟩ := h; rfl) (fun cdv A outer s H vs Q E hr h => ?_)
  obtain ⟨a, ns, rfl, ha, ⟨h1, h2, h3⟩, q⟩ := h
  refine ⟨_, (pss_cons (ps_if (PW.pt (pw_or (pt_not (pt_val (pe_callB call_isi (by rfl) T.b_isinstance (by decide +kernel) (pa_cons (pv 0) (pa_cons (pe_bltn (v := .ty "list") (by rfl) T.b_list (by decide +kernel) rfl) pa_nil))))) (pw_or1 (pt_not (pt_chain op_le op_le pe_int (pe_callB call_len_seq (by rfl) T.b_len PySem.boot_len (pa_cons (pv 0) pa_nil)) (pe_globX (by rfl) T.g_MOST_SHARES)))))) (pss_one ps_never) pss_nil)
      (pss_one (ps_for PassesOwn.never rfl (pi_list (pv 0)) (pg_name (i := 1) sc_check_shares.nd rfl (Or.inl rfl)) (pss_one (ps_if (pt_not (pt_val (pe_cal C_is_whole hr (by decide) (by rfl) (pa_cons (pv 1) (pa_cons pe_int (pa_cons (pe_globX (by rfl) T.g_GREATEST_SHARE) pa_nil)))))) (pss_one ps_never) pss_nil))))), ?_⟩
  refine q_when (b := false) (et_or (a := false) (et_not (a := true) (et_B (ev_isi (ev_var rfl) ev_c (fun _ e => ty_lst (e _ _ ha)) (by decide +kernel)))) fun _ => et_not (a := true) (et_is (et_test (ev_chain ev_c (ev_lenL (ev_var rfl) (sq_of ha)) ev_c)) ?_)) (fun hx => nomatch hx) (fun _ H1 e1 => ?_)
  · rw [List.length_map, decide_eq_true (by omega), decide_eq_true (by omega)]
    rfl
  refine s_forLn (ev_var rfl) (sq_of (e1 _ _ ha)) (fun i σ' H' => Ex H1 H' ∧ ∃ y1, σ' = [some (.ref a), y1]) (fun H2 e2 => ⟨e2, none, rfl⟩) (fun i σ' H' _ p => sq_of (p.1 _ _ (e1 _ _ ha))) (fun i x σ' H' hx p => ?_) (fun σ' H' p => ?_)
  · obtain ⟨e2, y1, rfl⟩ := p
    obtain ⟨z, rfl, hz⟩ := int_at hx
    obtain ⟨g1, g2⟩ := h3 z (List.mem_of_getElem? hz)
    refine s_when (b := false) (et_not (a := true) (et_B (ev_cal (ea_cons (ev_var rfl) (ea_cons ev_c (ea_cons ev_c ea_nil))) (spv fun H3 _ Q E q => ⟨z, 1, 1000000000000, rfl, g1, g2, q⟩)))) (fun hx => nomatch hx) (fun _ H3 e3 => ?_)
    exact ⟨e2.trans e3, _, rfl⟩
  · obtain ⟨e2, y1, rfl⟩ := p
    exact q H' (e1.trans e2)
def Counts (cs : List Int) (n : Nat) : Prop := cs.length = n ∧ ∀ c ∈ cs, 0 ≤ c ∧ c ≤ 1000000000000
def sp_chkC (K : PySem.W.Frag) : Sp := fun vs H Q _ => ∃ (a : Addr) (ns : List Int) (n : Nat), vs = [.ref a, .int (n : Int)] ∧ H a = some (.lst (ns.map V.int)) ∧ Counts ns n ∧ RetV .non H Q
theorem ok_check_counts {f : Addr} {fd : FuncData} (T : Txt K mg) (F : Fun K "check_counts" "check_counts" s_check_counts f fd) (C_is_whole : Cal P w K mg base "is_whole" ["value", "low", "high"] 1 sp_isw) : FnOk P w K mg base CX0 2 f fd ["counts", "many"] (sp_chkC K) := by
  refine F.ok sc_check_counts (fun vs H Q E h => by obtain ⟨a, ns, n, rfl, _⟩ := h; rfl) (fun cdv A outer s H vs Q E hr h => ?_)
  obtain ⟨a, ns, n, rfl, ha, ⟨h1, h3⟩, q⟩ := h
  refine ⟨_, (pss_cons (ps_if (PW.pt (pw_or (pt_not (pt_val (pe_callB call_isi (by rfl) T.b_isinstance (by decide +kernel) (pa_cons (pv 0) (pa_cons (pe_bltn (v := .ty "list") (by rfl) T.b_list (by decide +kernel) rfl) pa_nil))))) (pw_or1 (pt_cmpR op_ne (pe_callB call_len_seq (by rfl) T.b_len PySem.boot_len (pa_cons (pv 0) pa_nil)) (pv 1) (nomark _))))) (pss_one ps_never) pss_nil)
      (pss_one (ps_for PassesOwn.never rfl (pi_list (pv 0)) (pg_name (i := 2) sc_check_counts.nd rfl (Or.inl rfl)) (pss_one (ps_if (pt_not (pt_val (pe_cal C_is_whole hr (by decide) (by rfl) (pa_cons (pv 2) (pa_cons pe_int (pa_cons (pe_globX (by rfl) T.g_GREATEST_SHARE) pa_nil)))))) (pss_one ps_never) pss_nil))))), ?_⟩
  refine q_when (b := false) (et_or (a := false) (et_not (a := true) (et_B (ev_isi (ev_var rfl) ev_c (fun _ e => ty_lst (e _ _ ha)) (by decide +kernel)))) fun _ => et_is (et_test (ev_op (ev_lenL (ev_var rfl) (sq_of ha)) (ev_var rfl) (rv_ne rfl))) ?_) (fun hx => nomatch hx) (fun _ H1 e1 => ?_)
  · rw [List.length_map, h1]
    simp
  refine s_forLn (ev_var rfl) (sq_of (e1 _ _ ha)) (fun i σ' H' => Ex H1 H' ∧ ∃ y1, σ' = [some (.ref a), some (.int (n : Int)), y1]) (fun H2 e2 => ⟨e2, none, rfl⟩) (fun i σ' H' _ p => sq_of (p.1 _ _ (e1 _ _ ha))) (fun i x σ' H' hx p => ?_) (fun σ' H' p => ?_)
  · obtain ⟨e2, y1, rfl⟩ := p
    obtain ⟨z, rfl, hz⟩ := int_at hx
    obtain ⟨g1, g2⟩ := h3 z (List.mem_of_getElem? hz)
    refine s_when (b := false) (et_not (a := true) (et_B (ev_cal (ea_cons (ev_var rfl) (ea_cons ev_c (ea_cons ev_c ea_nil))) (spv fun H3 _ Q E q => ⟨z, 0, 1000000000000, rfl, g1, g2, q⟩)))) (fun hx => nomatch hx) (fun _ H3 e3 => ?_)
    exact ⟨e2.trans e3, _, rfl⟩
  · obtain ⟨e2, y1, rfl⟩ := p
    exact q H' (e1.trans e2)
def sp_chkP : Sp := fun vs H Q _ => ∃ (c n : Int), vs = [.int c, .int n] ∧ n ≤ c ∧ c ≤ 1000000 ∧ RetV .non H Q
theorem ok_check_cap {f : Addr} {fd : FuncData} (T : Txt K mg) (F : Fun K "check_cap" "check_cap" s_check_cap f fd) (C_is_whole : Cal P w K mg base "is_whole" ["value", "low", "high"] 1 sp_isw) : FnOk P w K mg base CX0 2 f fd ["cap", "many"] sp_chkP := by
  refine F.ok sc_check_cap (fun vs H Q E h => by obtain ⟨c, n, rfl, _⟩ := h; rfl) (fun cdv A outer s H vs Q E hr h => ?_)
  obtain ⟨c, n, rfl, h1, h2, q⟩ := h
  refine ⟨_, (pss_one (ps_if (pt_not (pt_val (pe_cal C_is_whole hr (by decide) (by rfl) (pa_cons (pv 0) (pa_cons (pv 1) (pa_cons (pe_globX (by rfl) T.g_GREATEST_CAP) pa_nil)))))) (pss_one ps_never) pss_nil)), ?_⟩
  exact s_when (b := false) (et_not (a := true) (et_B (ev_cal (ea_cons (ev_var rfl) (ea_cons (ev_var rfl) (ea_cons ev_c ea_nil))) (spv fun H3 _ Q E q => ⟨c, n, 1000000, rfl, h1, h2, q⟩)))) (fun hx => nomatch hx) (fun _ H3 e3 => q H3 e3)
def half (x : Int) : Int := x - x / 2
/-- halved as long as the sum is above the cap -/
inductive Halved (cap : Int) : List Int → List Int → Prop where
  | stop {xs} : xs.sum ≤ cap → Halved cap xs xs
  | step {xs ys} : cap < xs.sum → Halved cap (xs.map half) ys → Halved cap xs ys
theorem half_pos {x : Int} (h : 1 ≤ x) : 1 ≤ half x ∧ half x ≤ x := by
  unfold half
  omega
theorem sum_half : ∀ {xs : List Int}, (∀ x ∈ xs, 1 ≤ x) → (xs.map half).sum ≤ xs.sum ∧ ((xs.length : Int) < xs.sum → (xs.map half).sum < xs.sum)
  | [], _ => ⟨Int.le_refl _, fun h => by simp at h⟩
  | x :: r, h => by
    have h1 := h x List.mem_cons_self
    obtain ⟨i1, i2⟩ := sum_half (xs := r) fun y hy => h y (List.mem_cons_of_mem _ hy)
    have h2 := half_pos h1
    rw [List.map_cons, List.sum_cons, List.sum_cons, List.length_cons]
    refine ⟨by omega, fun hl => ?_⟩
    by_cases hx : x = 1
    · have : (r.length : Int) < r.sum := by omega
      have := i2 this
      omega
    · have : half x < x := by
        unfold half
        omega
      omega
theorem sum_ge : ∀ {xs : List Int}, (∀ x ∈ xs, 1 ≤ x) → (xs.length : Int) ≤ xs.sum
  | [], _ => by simp
  | x :: r, h => by
    have h1 := h x List.mem_cons_self
    have := sum_ge (xs := r) fun y hy => h y (List.mem_cons_of_mem _ hy)
    rw [List.sum_cons, List.length_cons]
    omega
theorem halves {cap : Int} : ∀ (m : Nat) (xs : List Int), xs.sum.toNat ≤ m → (∀ x ∈ xs, 1 ≤ x) → (xs.length : Int) ≤ cap → ∃ ys, Halved cap xs ys
  | 0, xs, hm, h, hc => ⟨xs, .stop (by have := sum_ge h; omega)⟩
  | m + 1, xs, hm, h, hc => by
    by_cases hs : cap < xs.sum
    · have := (sum_half h).2 (by omega)
      obtain ⟨ys, hy⟩ := halves m (xs.map half) (by omega) (fun x hx => by
        obtain ⟨y, hy, rfl⟩ := List.mem_map.mp hx
        exact (half_pos (h y hy)).1) (by rw [List.length_map]; exact hc)
      exact ⟨ys, .step hs hy⟩
    · exact ⟨xs, .stop (by omega)⟩
theorem halved_len {cap : Int} {xs ys : List Int} (h : Halved cap xs ys) : ys.length = xs.length := by
  induction h with
  | stop _ => rfl
  | step _ _ ih => rw [ih, List.length_map]
/-- the loop while sum(xs) > cap: xs = [x - x // 2 for x in xs], from slot 3, behind which nothing is kept but the list's address -/
def WH (cap : Int) (ys : List Int) (n : Nat) (H : Hp) (m : Nat) (p : Addr) (H' : Hp) : Prop := ∃ xs : List Int, Ex H H' ∧ H' p = some (.lst (xs.map V.int)) ∧ H p = none ∧ Halved cap xs ys ∧ (∀ x ∈ xs, 1 ≤ x) ∧ xs.length = n ∧ (n : Int) ≤ cap ∧ n ≤ 40 ∧ m = xs.sum.toNat
def sumZ (xs ys : List Int) : List Int := List.zipWith (· + ·) xs ys
theorem sumZ_at {xs ys : List Int} {i : Nat} {x y : Int} (h1 : xs[i]? = some x) (h2 : ys[i]? = some y) : (sumZ xs ys)[i]? = some (x + y) := by
  unfold sumZ
  rw [List.getElem?_zipWith, h1, h2]
theorem sumZ_len {xs ys : List Int} (h : ys.length = xs.length) : (sumZ xs ys).length = xs.length := by
  unfold sumZ
  rw [List.length_zipWith, h, Nat.min_self]
theorem sumZ_pos : ∀ {xs ys : List Int}, (∀ x ∈ xs, 1 ≤ x) → (∀ y ∈ ys, 0 ≤ y) → ∀ z ∈ sumZ xs ys, 1 ≤ z
  | [], _, _, _, z, hz => by simp [sumZ] at hz
  | _ :: _, [], _, _, z, hz => by simp [sumZ] at hz
  | x :: xs, y :: ys, h1, h2, z, hz => by
    have a1 := h1 x List.mem_cons_self
    have a2 := h2 y List.mem_cons_self
    rcases List.mem_cons.mp (show z ∈ (x + y) :: sumZ xs ys from hz) with e | hz
    · omega
    · exact sumZ_pos (fun v hv => h1 v (List.mem_cons_of_mem _ hv)) (fun v hv => h2 v (List.mem_cons_of_mem _ hv)) z hz
def sp_learnt (K : PySem.W.Frag) : Sp := fun vs H Q _ => ∃ (a b : Addr) (ns cs ys : List Int) (cap : Int), vs = [.ref a, .ref b, .int cap] ∧ H a = some (.lst (ns.map V.int)) ∧ H b = some (.lst (cs.map V.int)) ∧ Shares ns ∧ Counts cs ns.length ∧
  (ns.length : Int) ≤ cap ∧ cap ≤ 1000000 ∧ Halved cap (sumZ ns cs) ys ∧ RetL (ys.map V.int) H Q
theorem ok_learnt {f : Addr} {fd : FuncData} (T : Txt K mg) (F : Fun K "learnt" "learnt" s_learnt f fd) (C_check_shares : Cal P w K mg base "check_shares" ["shares"] 2 (sp_chkS K)) (C_check_counts : Cal P w K mg base "check_counts" ["counts", "many"] 2 (sp_chkC K)) (C_check_cap : Cal P w K mg base "check_cap" ["cap", "many"] 2 sp_chkP) : FnOk P w K mg base CX0 3 f fd ["shares", "counts", "cap"] (sp_learnt K) := by
  refine F.ok sc_learnt (fun vs H Q E h => by obtain ⟨a, b, ns, cs, ys, cap, rfl, _⟩ := h; rfl) (fun cdv A outer s H vs Q E hr h => ?_)
  obtain ⟨a, b, ns, cs, ys, cap, rfl, ha, hb, hS, hC, hc1, hc2, hy, q⟩ := h
  refine ⟨_, (pss_cons (ps_expr (pe_cal C_check_shares hr (by decide) (by rfl) (pa_cons (pv 0) pa_nil)))
      (pss_cons (ps_expr (pe_cal C_check_counts hr (by decide) (by rfl) (pa_cons (pv 1) (pa_cons (pe_callB call_len_seq (by rfl) T.b_len PySem.boot_len (pa_cons (pv 0) pa_nil)) pa_nil))))
      (pss_cons (ps_expr (pe_cal C_check_cap hr (by decide) (by rfl) (pa_cons (pv 2) (pa_cons (pe_callB call_len_seq (by rfl) T.b_len PySem.boot_len (pa_cons (pv 0) pa_nil)) pa_nil))))
      (pss_cons (ps_setLc (i := 3) (own := [("share", 4), ("count", 5)]) (g := (gTup K 2 (gCons (gName 4) (gCons (gName 5) gNil)))) (tt := tYes) rfl sc_learnt.nd rfl rfl (sw_true rfl rfl rfl (by decide +kernel)) (pi_zip (by rfl) T.b_zip (pa_cons (pv 0) (pa_cons (pv 1) pa_nil))) (blkOk_by (N := ["shares", "counts", "cap", "grown", "share", "count"]) (sc := defScope s_learnt) (by decide +kernel)) (fun _ _ _ _ _ => (pg_tup rfl (pgs_cons (pg_name (i := 4) sc_learnt.nd rfl (Or.inl rfl)) (pgs_cons (pg_name (i := 5) sc_learnt.nd rfl (Or.inl rfl)) pgs_nil)))) (fun _ _ _ _ _ => pts_nil) (fun _ _ _ _ _ => (pe_op op_add (pv 4) (pv 5))))
      (pss_cons (ps_while PassesOwn.never (pt_cmpR op_gt (pe_callB (cr_sum rfl) (by rfl) T.b_sum (by decide +kernel) (pa_cons (pv 3) pa_nil)) (pv 2) (nomark _)) (pss_one (ps_setLc (i := 3) (own := [("share", 4)]) (g := (gName 4)) (tt := tYes) rfl sc_learnt.nd rfl rfl (sw_true rfl rfl rfl (by decide +kernel)) (pi_list (pv 3)) (blkOk_by (N := ["shares", "counts", "cap", "grown", "share", "count"]) (sc := defScope s_learnt) (by decide +kernel)) (fun _ _ _ _ _ => (pg_name (i := 4) sc_learnt.nd rfl (Or.inl rfl))) (fun _ _ _ _ _ => pts_nil) (fun _ _ _ _ _ => (pe_op op_sub (pv 4) (pe_op op_fdiv (pv 4) pe_int))))))
      (pss_one (ps_ret (pv 3)))))))), ?_⟩
  refine q_drop (ev_cal (ea_cons (ev_var rfl) ea_nil) (spv_chkS ha hS)) fun H1 e1 => ?_
  refine q_drop (ev_cal (ea_cons (ev_var rfl) (ea_cons (ev_lenL (ev_var rfl) (sq_of (e1 _ _ ha))) ea_nil)) (spv fun H2 e2 Q E q => ⟨b, cs, ns.length, by rw [List.length_map], e2 _ _ (e1 _ _ hb), hC, q⟩)) fun H2 e2 => ?_
  have e12 := e1.trans e2
  refine q_drop (ev_cal (ea_cons (ev_var rfl) (ea_cons (ev_lenL (ev_var rfl) (sq_of (e12 _ _ ha))) ea_nil)) (spv fun H3 e3 Q E q => ⟨cap, ns.length, by rw [List.length_map], hc1, hc2, q⟩)) fun H3 e3 => ?_
  have e13 := e12.trans e3
  obtain ⟨hS1, hS2, hS3⟩ := id hS
  refine q_asgL (el_mapZ ((sumZ ns cs).map V.int) (ea_cons (ev_var rfl) (ea_cons (ev_var rfl) ea_nil)) (sq_of (e13 _ _ ha)) (sq_of (e13 _ _ hb)) (by rw [List.length_map, List.length_map, hC.1]) (by rw [List.length_map, List.length_map, sumZ_len hC.1]) (by rw [List.length_map]; omega) (fun _ _ => rfl) (fun k x z y H4 e4 h1 h2 h3 => ?_)) fun p H4 hp e4 h4 => ?_
  · obtain ⟨x, rfl, g1⟩ := int_at h1
    obtain ⟨z, rfl, g2⟩ := int_at h2
    obtain ⟨y, rfl, g3⟩ := int_at h3
    rw [sumZ_at g1 g2] at g3
    cases g3
    exact ev_op (ev_var rfl) (ev_var rfl) rv_I0
  refine q_while (fun m σ' H' => ∃ p y1 y2, σ' = [some (.ref a), some (.ref b), some (.int cap), some (.ref p), y1, y2] ∧ WH cap ys ns.length H m p H') ((sumZ ns cs).sum.toNat) ⟨p, _, _, rfl, sumZ ns cs, e13.trans e4, h4, fresh_back e13 hp, hy, sumZ_pos (fun x hx => (hS3 x hx).1) (fun x hx => (hC.2 x hx).1), sumZ_len hC.1, hc1, hS2, rfl⟩ (fun m σ' H' hw => ?_)
  obtain ⟨p', y1, y2, rfl, xs, f1, f2, f3, f4, f5, f6, f7, f8, rfl⟩ := hw
  refine ⟨decide (cap < xs.sum), et_test (ev_op (ev_sum (ev_var rfl) (sq_of f2)) (ev_var rfl) rv_I0), fun hb2 H5 e5 => ?_, fun hb2 H5 e5 => ?_⟩
  · have hlt := of_decide_eq_true hb2
    have hl : xs.sum.toNat > (xs.map half).sum.toNat := by
      have h1 := (sum_half f5).2 (by omega)
      have h2 := sum_ge f5
      omega
    refine ⟨fun σ2 H2 => ∃ m', m' < xs.sum.toNat ∧ ∃ p y1 y2, σ2 = [some (.ref a), some (.ref b), some (.int cap), some (.ref p), y1, y2] ∧ WH cap ys ns.length H m' p H2, fun σ2 H2 h => h, ?_⟩
    refine s_asgL (el_mapL ((xs.map half).map V.int) (ev_var rfl) (sq_of (e5 _ _ f2)) (by simp) (by rw [List.length_map]; omega) (fun _ => rfl) (fun i x y H6 e6 g1 g2 => ?_)) fun p2 H6 hp2 e6 h6 => ?_
    · obtain ⟨x, rfl, g3⟩ := int_at g1
      obtain ⟨y, rfl, g4⟩ := int_at g2
      rw [List.getElem?_map, g3] at g4
      cases g4
      exact ev_op (ev_var rfl) (ev_op (ev_var rfl) ev_c (rv_fdiv (by decide))) rv_I0
    · cases f4 with
      | stop h => omega
      | step _ hh =>
        exact ⟨_, hl, p2, _, _, rfl, xs.map half, (f1.trans e5).trans e6, h6, fresh_back (f1.trans e5) hp2, hh, fun x hx => by
          obtain ⟨y, hy, rfl⟩ := List.mem_map.mp hx
          exact (half_pos (f5 y hy)).1, by rw [List.length_map, f6], f7, f8, rfl⟩
  · have hle := of_decide_eq_false hb2
    cases f4 with
    | step h _ => omega
    | stop _ => exact s_ret (ev_var rfl) fun H6 e6 => q p' H6 f3 ((f1.trans e5).trans e6) (e6 _ _ (e5 _ _ f2))
def sp_law (K : PySem.W.Frag) : Sp := fun vs H Q _ => ∃ (a : Addr) (ns : List Int), vs = [.ref a] ∧ SqL K H a (ns.map V.int) ∧ ns.length ≤ 63 ∧ RetV (.bl true) H Q
theorem law_start {H : Hp} {a : Addr} {ns : List Int} (hl : ns.length ≤ 63) (hS : SqL K H a (ns.map V.int)) : sp_law K [.ref a] H (fun v _ => v = .bl true) (fun _ _ _ => False) := ⟨a, ns, rfl, hS, hl, fun _ _ => rfl⟩
def sp_whole : Sp := fun vs H Q _ => ∃ i : Int, vs = [.int i] ∧ RetV (.bl true) H Q
theorem ok_whole {f : Addr} {fd : FuncData} (T : Txt K mg) (F : Fun K "_law_whole" "_law_whole" s_whole f fd) : FnOk P w K mg base CX0 1 f fd ["_law_found"] sp_whole := by
  refine F.ok sc_whole (fun vs H Q E h => by obtain ⟨i, rfl, _⟩ := h; rfl) (fun cdv A outer s H vs Q E hr h => ?_)
  obtain ⟨i, rfl, q⟩ := h
  refine ⟨_, (pss_one (ps_ret (pe_and (pe_callB call_isi (by rfl) T.b_isinstance (by decide +kernel) (pa_cons (pv 0) (pa_cons (pe_bltn (v := .ty "int") (by rfl) T.b_int (by decide +kernel) rfl) pa_nil))) (pe_one (pe_not (pe_callB call_isi (by rfl) T.b_isinstance (by decide +kernel) (pa_cons (pv 0) (pa_cons (pe_bltn (v := .ty "bool") (by rfl) T.b_bool (by decide +kernel) rfl) pa_nil)))))))), ?_⟩
  exact s_ret (ev_andV (b := true) (ev_isi (ev_var rfl) ev_c (fun _ _ => ty_int) (b := true) (by decide +kernel)) fun _ => ev_notV (ev_isi (ev_var rfl) ev_c (fun _ _ => ty_int) (b := false) (by decide +kernel))) fun H1 e1 => q H1 e1
def sp_cell (K : PySem.W.Frag) : Sp := fun vs H Q _ => ∃ (a : Addr) (ns : List Int) (j : Nat), vs = [.ref a, .int (j : Int)] ∧ SqL K H a (ns.map V.int) ∧ RetV (.int (cel ns j)) H Q
theorem spv_cell {H : Hp} {a : Addr} {ns : List Int} {j : Nat} {i : Int} (hs : SqL K H a (ns.map V.int)) (e : i = (j : Int)) : SpV (sp_cell K) [.ref a, .int i] H (.int (cel ns j)) :=
  spv fun H1 e1 Q E q => ⟨a, ns, j, by rw [e], ex_l e1 hs, q⟩
theorem ok_cell_at {f : Addr} {fd : FuncData} (T : Txt K mg) (F : Fun K "_law_cell_at" "_law_cell_at" s_cell_at f fd) : FnOk P w K mg base CX0 1 f fd ["_law_script", "_law_k"] (sp_cell K) := by
  refine F.ok sc_cell_at (fun vs H Q E h => by obtain ⟨a, ns, j, rfl, _⟩ := h; rfl) (fun cdv A outer s H vs Q E hr h => ?_)
  obtain ⟨a, ns, j, rfl, hs, q⟩ := h
  refine ⟨_, (pss_cons (ps_if (pt_cmpR op_lt (pv 1) (pe_callB call_len_seq (by rfl) T.b_len PySem.boot_len (pa_cons (pv 0) pa_nil)) (nomark _)) (pss_one (ps_ret (pe_ix ix_list (pv 0) (pv 1) (fun _ _ => rfl)))) pss_nil)
      (pss_one (ps_ret pe_int))), ?_⟩
  refine q_when (et_test (ev_op (ev_var rfl) (ev_lenL (ev_var rfl) hs) rv_I0)) (fun hb H1 e1 => ?_) (fun hb H1 e1 => ?_)
  · have hj : j < ns.length := by
      have h1 := of_decide_eq_true hb
      rw [List.length_map] at h1
      omega
    exact s_ret (ev_op (ev_var rfl) (ev_var rfl) (rv_ixL (ex_l e1 hs) (cel_in hj))) fun H2 e2 => q H2 (e1.trans e2)
  · have hj : ¬ j < ns.length := by
      have h1 := of_decide_eq_false hb
      rw [List.length_map] at h1
      omega
    rw [cel_out hj] at q
    exact s_ret ev_c fun H2 e2 => q H2 (e1.trans e2)
def manyOf (c : Int) : Int := if c / 6 % 5 = 1 then 1 + c / 30 % 40 else 1 + c % 6
theorem manyOf_pos (c : Int) : 1 ≤ manyOf c ∧ manyOf c ≤ 40 := by
  unfold manyOf
  split
  · omega
  · omega
def sp_many : Sp := fun vs H Q _ => ∃ c : Int, vs = [.int c] ∧ RetV (.int (manyOf c)) H Q
theorem ok_many_by {f : Addr} {fd : FuncData} (T : Txt K mg) (F : Fun K "_law_many_by" "_law_many_by" s_many_by f fd) : FnOk P w K mg base CX0 1 f fd ["_law_cell"] sp_many := by
  refine F.ok sc_many_by (fun vs H Q E h => by obtain ⟨c, rfl, _⟩ := h; rfl) (fun cdv A outer s H vs Q E hr h => ?_)
  obtain ⟨c, rfl, q⟩ := h
  refine ⟨_, (pss_cons (ps_if (pt_cmpR op_eq (pe_op op_mod (pe_op op_fdiv (pv 0) pe_int) pe_int) pe_int (nomark _)) (pss_one (ps_ret (pe_op op_add pe_int (pe_op op_mod (pe_op op_fdiv (pv 0) pe_int) pe_int)))) pss_nil)
      (pss_one (ps_ret (pe_op op_add pe_int (pe_op op_mod (pv 0) pe_int))))), ?_⟩
  refine q_when (et_test (ev_op (ev_op (ev_op (ev_var rfl) ev_c (rv_fdiv (by decide))) ev_c (rv_mod (by decide))) ev_c (rv_eq rfl))) (fun hb H1 e1 => ?_) (fun hb H1 e1 => ?_)
  · have hc : c / 6 % 5 = 1 := V.int.inj (of_decide_eq_true hb)
    refine s_ret (ev_op ev_c (ev_op (ev_op (ev_var rfl) ev_c (rv_fdiv (by decide))) ev_c (rv_mod (by decide))) rv_I0) fun H2 e2 => ?_
    have := q H2 (e1.trans e2)
    unfold manyOf at this
    rw [if_pos hc] at this
    exact this
  · have hc : ¬ c / 6 % 5 = 1 := fun z => of_decide_eq_false hb (by rw [z])
    refine s_ret (ev_op ev_c (ev_op (ev_var rfl) ev_c (rv_mod (by decide))) rv_I0) fun H2 e2 => ?_
    have := q H2 (e1.trans e2)
    unfold manyOf at this
    rw [if_neg hc] at this
    exact this
def shareOf (c : Int) : Int := if c % 5 = 1 then 1 + c / 5 % 1000000000000 else if c % 5 = 2 then 1 + c / 5 % 3 else 1 + c / 5 % 40
theorem shareOf_pos (c : Int) : 1 ≤ shareOf c ∧ shareOf c ≤ 1000000000000 := by
  unfold shareOf
  split
  · omega
  · split <;> omega
def sp_share : Sp := fun vs H Q _ => ∃ c : Int, vs = [.int c] ∧ RetV (.int (shareOf c)) H Q
theorem ok_share_by {f : Addr} {fd : FuncData} (T : Txt K mg) (F : Fun K "_law_share_by" "_law_share_by" s_share_by f fd) : FnOk P w K mg base CX0 1 f fd ["_law_cell"] sp_share := by
  refine F.ok sc_share_by (fun vs H Q E h => by obtain ⟨c, rfl, _⟩ := h; rfl) (fun cdv A outer s H vs Q E hr h => ?_)
  obtain ⟨c, rfl, q⟩ := h
  refine ⟨_, (pss_cons (ps_if (pt_cmpR op_eq (pe_op op_mod (pv 0) pe_int) pe_int (nomark _)) (pss_one (ps_ret (pe_op op_add pe_int (pe_op op_mod (pe_op op_fdiv (pv 0) pe_int) pe_int)))) pss_nil)
      (pss_cons (ps_if (pt_cmpR op_eq (pe_op op_mod (pv 0) pe_int) pe_int (nomark _)) (pss_one (ps_ret (pe_op op_add pe_int (pe_op op_mod (pe_op op_fdiv (pv 0) pe_int) pe_int)))) pss_nil)
      (pss_one (ps_ret (pe_op op_add pe_int (pe_op op_mod (pe_op op_fdiv (pv 0) pe_int) pe_int)))))), ?_⟩
  refine q_when (et_test (ev_op (ev_op (ev_var rfl) ev_c (rv_mod (by decide))) ev_c (rv_eq rfl))) (fun hb H1 e1 => ?_) (fun hb H1 e1 => ?_)
  · have hc : c % 5 = 1 := V.int.inj (of_decide_eq_true hb)
    refine s_ret (ev_op ev_c (ev_op (ev_op (ev_var rfl) ev_c (rv_fdiv (by decide))) ev_c (rv_mod (by decide))) rv_I0) fun H2 e2 => ?_
    have := q H2 (e1.trans e2)
    unfold shareOf at this
    rw [if_pos hc] at this
    exact this
  · have hc : ¬ c % 5 = 1 := fun z => of_decide_eq_false hb (by rw [z])
    refine q_when (et_test (ev_op (ev_op (ev_var rfl) ev_c (rv_mod (by decide))) ev_c (rv_eq rfl))) (fun hb2 H2 e2 => ?_) (fun hb2 H2 e2 => ?_)
    · have hc2 : c % 5 = 2 := V.int.inj (of_decide_eq_true hb2)
      refine s_ret (ev_op ev_c (ev_op (ev_op (ev_var rfl) ev_c (rv_fdiv (by decide))) ev_c (rv_mod (by decide))) rv_I0) fun H3 e3 => ?_
      have := q H3 ((e1.trans e2).trans e3)
      unfold shareOf at this
      rw [if_neg hc, if_pos hc2] at this
      exact this
    · have hc2 : ¬ c % 5 = 2 := fun z => of_decide_eq_false hb2 (by rw [z])
      refine s_ret (ev_op ev_c (ev_op (ev_op (ev_var rfl) ev_c (rv_fdiv (by decide))) ev_c (rv_mod (by decide))) rv_I0) fun H3 e3 => ?_
      have := q H3 ((e1.trans e2).trans e3)
      unfold shareOf at this
      rw [if_neg hc, if_neg hc2] at this
      exact this
def sp_alike (K : PySem.W.Frag) : Sp := fun vs H Q _ => ∃ (a b : Addr) (ns : List Int), vs = [.ref a, .ref b] ∧ H a = some (.lst (ns.map V.int)) ∧ H b = some (.lst (ns.map V.int)) ∧ RetV (.bl true) H Q
theorem spv_alike {H : Hp} {a b : Addr} {ns : List Int} (ha : H a = some (.lst (ns.map V.int))) (hb : H b = some (.lst (ns.map V.int))) : SpV (sp_alike K) [.ref a, .ref b] H (.bl true) :=
  spv fun H1 e1 Q E q => ⟨a, b, ns, rfl, e1 _ _ ha, e1 _ _ hb, q⟩
theorem ok_numbers_alike {f : Addr} {fd : FuncData} (T : Txt K mg) (F : Fun K "_law_numbers_alike" "_law_numbers_alike" s_numbers_alike f fd) (C__law_whole : Cal P w K mg base "_law_whole" ["_law_found"] 1 sp_whole) : FnOk P w K mg base CX0 2 f fd ["_law_found", "_law_due"] (sp_alike K) := by
  refine F.ok sc_numbers_alike (fun vs H Q E h => by obtain ⟨a, b, ns, rfl, _⟩ := h; rfl) (fun cdv A outer s H vs Q E hr h => ?_)
  obtain ⟨a, b, ns, rfl, ha, hb, q⟩ := h
  refine ⟨_, (pss_cons (ps_if (PW.pt (pw_or (pt_not (pt_val (pe_callB call_isi (by rfl) T.b_isinstance (by decide +kernel) (pa_cons (pv 0) (pa_cons (pe_bltn (v := .ty "list") (by rfl) T.b_list (by decide +kernel) rfl) pa_nil))))) (pw_or1 (pt_cmpR op_ne (pe_callB call_len_seq (by rfl) T.b_len PySem.boot_len (pa_cons (pv 0) pa_nil)) (pe_callB call_len_seq (by rfl) T.b_len PySem.boot_len (pa_cons (pv 1) pa_nil)) (nomark _))))) (pss_one (ps_ret pe_bl)) pss_nil)
      (pss_cons (ps_for PassesOwn.never rfl (pi_zip (by rfl) T.b_zip (pa_cons (pv 0) (pa_cons (pv 1) pa_nil))) (pg_tup rfl (pgs_cons (pg_name (i := 2) sc_numbers_alike.nd rfl (Or.inl rfl)) (pgs_cons (pg_name (i := 3) sc_numbers_alike.nd rfl (Or.inl rfl)) pgs_nil))) (pss_one (ps_if (PW.pt (pw_or (pt_not (pt_val (pe_cal C__law_whole hr (by decide) (by rfl) (pa_cons (pv 2) pa_nil)))) (pw_or1 (pt_cmpR op_ne (pv 2) (pv 3) (nomark _))))) (pss_one (ps_ret pe_bl)) pss_nil)))
      (pss_one (ps_ret pe_bl)))), ?_⟩
  refine q_when (b := false) (et_or (a := false) (et_not (a := true) (et_B (ev_isi (ev_var rfl) ev_c (fun _ e => ty_lst (e _ _ ha)) (by decide +kernel)))) fun _ => et_is (et_test (ev_op (ev_lenL (ev_var rfl) (sq_of ha)) (ev_lenL (ev_var rfl) (sq_of hb)) (rv_ne rfl))) (by simp)) (fun hx => nomatch hx) (fun _ H1 e1 => ?_)
  refine q_forZ (ea_cons (ev_var rfl) (ea_cons (ev_var rfl) ea_nil)) (sq_of (e1 _ _ ha)) (sq_of (e1 _ _ hb)) rfl (fun i σ' H' => Ex H1 H' ∧ ∃ y1 y2, σ' = [some (.ref a), some (.ref b), y1, y2]) (fun H2 e2 => ⟨e2, none, none, rfl⟩) (fun i σ' H' p => p.1) (fun n x y σ' H' H2 hx hy p e2 => ?_) (fun σ' H' p => ?_)
  · obtain ⟨e3, y1, y2, rfl⟩ := p
    have exy : y = x := Option.some.inj (hy.symm.trans hx)
    subst exy
    obtain ⟨z, rfl, _⟩ := int_at hx
    refine s_when (b := false) (et_or (a := false) (et_not (a := true) (et_B (ev_cal (ea_cons (ev_var rfl) ea_nil) (spv fun H3 _ Q E q => ⟨z, rfl, q⟩)))) fun _ => et_is (et_test (ev_op (ev_var rfl) (ev_var rfl) (rv_ne rfl))) (by simp)) (fun hx => nomatch hx) (fun _ H3 e4 => ?_)
    exact ⟨(e3.trans e2).trans e4, some (.int z), some (.int z), rfl⟩
  · obtain ⟨e3, y1, y2, rfl⟩ := p
    exact s_ret ev_c fun H3 e4 => q H3 ((e1.trans e3).trans e4)
def sp_learntB (K : PySem.W.Frag) : Sp := fun vs H Q _ => ∃ (a b : Addr) (ns cs ys : List Int) (cap : Int), vs = [.ref a, .ref b, .int cap] ∧ SqL K H a (ns.map V.int) ∧ SqL K H b (cs.map V.int) ∧ Shares ns ∧ Counts cs ns.length ∧
  (ns.length : Int) ≤ cap ∧ Halved cap (sumZ ns cs) ys ∧ RetL (ys.map V.int) H Q
theorem ok_learnt_by {f : Addr} {fd : FuncData} (T : Txt K mg) (F : Fun K "_law_learnt_by" "_law_learnt_by" s_learnt_by f fd) : FnOk P w K mg base CX0 1 f fd ["_law_shares", "_law_counts", "_law_cap"] (sp_learntB K) := by
  refine F.ok sc_learnt_by (fun vs H Q E h => by obtain ⟨a, b, ns, cs, ys, cap, rfl, _⟩ := h; rfl) (fun cdv A outer s H vs Q E hr h => ?_)
  obtain ⟨a, b, ns, cs, ys, cap, rfl, ha, hb, hS, hC, hc1, hy, q⟩ := h
  refine ⟨_, (pss_cons (ps_setLc (i := 3) (own := [("_law_one", 4), ("_law_more", 5)]) (g := (gTup K 2 (gCons (gName 4) (gCons (gName 5) gNil)))) (tt := tYes) rfl sc_learnt_by.nd rfl rfl (sw_true rfl rfl rfl (by decide +kernel)) (pi_zip (by rfl) T.b_zip (pa_cons (pv 0) (pa_cons (pv 1) pa_nil))) (blkOk_by (N := ["_law_shares", "_law_counts", "_law_cap", "_law_found", "_law_one", "_law_more"]) (sc := defScope s_learnt_by) (by decide +kernel)) (fun _ _ _ _ _ => (pg_tup rfl (pgs_cons (pg_name (i := 4) sc_learnt_by.nd rfl (Or.inl rfl)) (pgs_cons (pg_name (i := 5) sc_learnt_by.nd rfl (Or.inl rfl)) pgs_nil)))) (fun _ _ _ _ _ => pts_nil) (fun _ _ _ _ _ => (pe_op op_add (pv 4) (pv 5))))
      (pss_cons (ps_while PassesOwn.never (pt_cmpR op_gt (pe_callB (cr_sum rfl) (by rfl) T.b_sum (by decide +kernel) (pa_cons (pv 3) pa_nil)) (pv 2) (nomark _)) (pss_one (ps_setLc (i := 3) (own := [("_law_one", 4)]) (g := (gName 4)) (tt := tYes) rfl sc_learnt_by.nd rfl rfl (sw_true rfl rfl rfl (by decide +kernel)) (pi_list (pv 3)) (blkOk_by (N := ["_law_shares", "_law_counts", "_law_cap", "_law_found", "_law_one", "_law_more"]) (sc := defScope s_learnt_by) (by decide +kernel)) (fun _ _ _ _ _ => (pg_name (i := 4) sc_learnt_by.nd rfl (Or.inl rfl))) (fun _ _ _ _ _ => pts_nil) (fun _ _ _ _ _ => (pe_op op_sub (pv 4) (pe_op op_fdiv (pv 4) pe_int))))))
      (pss_one (ps_ret (pv 3))))), ?_⟩
  obtain ⟨hS1, hS2, hS3⟩ := id hS
  refine q_asgL (el_mapZ ((sumZ ns cs).map V.int) (ea_cons (ev_var rfl) (ea_cons (ev_var rfl) ea_nil)) ha hb (by rw [List.length_map, List.length_map, hC.1]) (by rw [List.length_map, List.length_map, sumZ_len hC.1]) (by rw [List.length_map]; omega) (fun _ _ => rfl) (fun k x z y H4 e4 h1 h2 h3 => ?_)) fun p H4 hp e4 h4 => ?_
  · obtain ⟨x, rfl, g1⟩ := int_at h1
    obtain ⟨z, rfl, g2⟩ := int_at h2
    obtain ⟨y, rfl, g3⟩ := int_at h3
    rw [sumZ_at g1 g2] at g3
    cases g3
    exact ev_op (ev_var rfl) (ev_var rfl) rv_I0
  refine q_while (fun m σ' H' => ∃ p y1 y2, σ' = [some (.ref a), some (.ref b), some (.int cap), some (.ref p), y1, y2] ∧ WH cap ys ns.length H m p H') ((sumZ ns cs).sum.toNat) ⟨p, _, _, rfl, sumZ ns cs, e4, h4, hp, hy, sumZ_pos (fun x hx => (hS3 x hx).1) (fun x hx => (hC.2 x hx).1), sumZ_len hC.1, hc1, hS2, rfl⟩ (fun m σ' H' hw => ?_)
  obtain ⟨p', y1, y2, rfl, xs, f1, f2, f3, f4, f5, f6, f7, f8, rfl⟩ := hw
  refine ⟨decide (cap < xs.sum), et_test (ev_op (ev_sum (ev_var rfl) (sq_of f2)) (ev_var rfl) rv_I0), fun hb2 H5 e5 => ?_, fun hb2 H5 e5 => ?_⟩
  · have hlt := of_decide_eq_true hb2
    have hl : xs.sum.toNat > (xs.map half).sum.toNat := by
      have h1 := (sum_half f5).2 (by omega)
      have h2 := sum_ge f5
      omega
    refine ⟨fun σ2 H2 => ∃ m', m' < xs.sum.toNat ∧ ∃ p y1 y2, σ2 = [some (.ref a), some (.ref b), some (.int cap), some (.ref p), y1, y2] ∧ WH cap ys ns.length H m' p H2, fun σ2 H2 h => h, ?_⟩
    refine s_asgL (el_mapL ((xs.map half).map V.int) (ev_var rfl) (sq_of (e5 _ _ f2)) (by simp) (by rw [List.length_map]; omega) (fun _ => rfl) (fun i x y H6 e6 g1 g2 => ?_)) fun p2 H6 hp2 e6 h6 => ?_
    · obtain ⟨x, rfl, g3⟩ := int_at g1
      obtain ⟨y, rfl, g4⟩ := int_at g2
      rw [List.getElem?_map, g3] at g4
      cases g4
      exact ev_op (ev_var rfl) (ev_op (ev_var rfl) ev_c (rv_fdiv (by decide))) rv_I0
    · cases f4 with
      | stop h => omega
      | step _ hh =>
        exact ⟨_, hl, p2, _, _, rfl, xs.map half, (f1.trans e5).trans e6, h6, fresh_back (f1.trans e5) hp2, hh, fun x hx => by
          obtain ⟨y, hy, rfl⟩ := List.mem_map.mp hx
          exact (half_pos (f5 y hy)).1, by rw [List.length_map, f6], f7, f8, rfl⟩
  · have hle := of_decide_eq_false hb2
    cases f4 with
    | step h _ => omega
    | stop _ => exact s_ret (ev_var rfl) fun H6 e6 => q p' H6 f3 ((f1.trans e5).trans e6) (e6 _ _ (e5 _ _ f2))
def sharesF (ns : List Int) (n : Nat) : List Int := (List.range n).map fun k => shareOf (cel ns (2 + 2 * k))
def countsF (ns : List Int) (n : Nat) : List Int := (List.range n).map fun k => shareOf (cel ns (3 + 2 * k)) - 1
theorem range_at {f : Nat → Int} {n i : Nat} {y : Int} (h : ((List.range n).map f)[i]? = some y) : y = f i ∧ i < n := by
  rw [List.getElem?_map] at h
  cases hz : (List.range n)[i]? with
  | none => rw [hz] at h; cases h
  | some z =>
    rw [hz] at h
    have hlt := (List.getElem?_eq_some_iff.mp hz)
    obtain ⟨h1, h2⟩ := hlt
    rw [List.getElem_range] at h2
    rw [List.length_range] at h1
    subst h2
    exact ⟨(Option.some.inj h).symm, h1⟩
theorem shares_ok {ns : List Int} {n : Nat} (h1 : 1 ≤ n) (h2 : n ≤ 40) : Shares (sharesF ns n) := by
  refine ⟨by simp [sharesF, h1], by simp [sharesF, h2], fun x hx => ?_⟩
  obtain ⟨k, _, rfl⟩ := List.mem_map.mp hx
  exact shareOf_pos _
theorem counts_ok {ns : List Int} {n : Nat} : Counts (countsF ns n) (sharesF ns n).length := by
  refine ⟨by simp [sharesF, countsF], fun x hx => ?_⟩
  obtain ⟨k, _, rfl⟩ := List.mem_map.mp hx
  have := shareOf_pos (cel ns (3 + 2 * k))
  omega
def capOf (ns : List Int) (n : Nat) : Int := if cel ns 1 / 60 % 4 = 1 then (n : Int) + cel ns 1 / 240 % (1000001 - (n : Int)) else (n : Int) + cel ns 1 % 60
theorem capOf_ok {ns : List Int} {n : Nat} (h1 : 1 ≤ n) (h2 : n ≤ 40) : (n : Int) ≤ capOf ns n ∧ capOf ns n ≤ 1000000 := by
  unfold capOf
  split
  · have g1 := Int.emod_nonneg (cel ns 1 / 240) (show (1000001 - (n : Int)) ≠ 0 by omega)
    have g2 := Int.emod_lt_of_pos (cel ns 1 / 240) (show 0 < (1000001 - (n : Int)) by omega)
    omega
  · omega
theorem ok_law {f : Addr} {fd : FuncData} (T : Txt K mg) (F : Fun K "law" "law" s_law f fd) (C__law_many_by : Cal P w K mg base "_law_many_by" ["_law_cell"] 1 sp_many) (C_learnt : Cal P w K mg base "learnt" ["shares", "counts", "cap"] 3 (sp_learnt K)) (C__law_numbers_alike : Cal P w K mg base "_law_numbers_alike" ["_law_found", "_law_due"] 2 (sp_alike K)) (C__law_cell_at : Cal P w K mg base "_law_cell_at" ["_law_script", "_law_k"] 1 (sp_cell K)) (C__law_share_by : Cal P w K mg base "_law_share_by" ["_law_cell"] 1 sp_share) (C__law_learnt_by : Cal P w K mg base "_law_learnt_by" ["_law_shares", "_law_counts", "_law_cap"] 1 (sp_learntB K)) : FnOk P w K mg base CX0 4 f fd ["_law_script"] (sp_law K) := by
  refine F.ok sc_law (fun vs H Q E h => by obtain ⟨a, ns, rfl, _⟩ := h; rfl) (fun cdv A outer s H vs Q E hr h => ?_)
  obtain ⟨a, ns, rfl, hs, hlen, q⟩ := h
  refine ⟨_, (pss_cons (ps_set (i := 1) sc_law.nd rfl (Or.inl rfl) (pe_cal C__law_many_by hr (by decide) (by rfl) (pa_cons (pe_cal C__law_cell_at hr (by decide) (by rfl) (pa_cons (pv 0) (pa_cons pe_int pa_nil))) pa_nil)))
      (pss_cons (ps_setLc (i := 2) (own := [("_law_k", 8)]) (g := (gName 8)) (tt := tYes) rfl sc_law.nd rfl rfl (sw_true rfl rfl rfl (by decide +kernel)) (pi_range1 (by rfl) T.b_range (pa_cons (pv 1) pa_nil)) (blkOk_by (N := ["_law_script", "_law_many", "_law_shares", "_law_counts", "_law_cap", "_law_ones", "_law_others", "_law_found", "_law_k"]) (sc := defScope s_law) (by decide +kernel)) (fun _ _ _ _ _ => (pg_name (i := 8) sc_law.nd rfl (Or.inl rfl))) (fun _ _ _ _ _ => pts_nil) (fun _ _ _ _ _ => (pe_cal C__law_share_by hr (by decide) (by rfl) (pa_cons (pe_cal C__law_cell_at hr (by decide) (by rfl) (pa_cons (pv 0) (pa_cons (pe_op op_add pe_int (pe_op op_mul pe_int (pv 8))) pa_nil))) pa_nil))))
      (pss_cons (ps_setLc (i := 3) (own := [("_law_k", 8)]) (g := (gName 8)) (tt := tYes) rfl sc_law.nd rfl rfl (sw_true rfl rfl rfl (by decide +kernel)) (pi_range1 (by rfl) T.b_range (pa_cons (pv 1) pa_nil)) (blkOk_by (N := ["_law_script", "_law_many", "_law_shares", "_law_counts", "_law_cap", "_law_ones", "_law_others", "_law_found", "_law_k"]) (sc := defScope s_law) (by decide +kernel)) (fun _ _ _ _ _ => (pg_name (i := 8) sc_law.nd rfl (Or.inl rfl))) (fun _ _ _ _ _ => pts_nil) (fun _ _ _ _ _ => (pe_op op_sub (pe_cal C__law_share_by hr (by decide) (by rfl) (pa_cons (pe_cal C__law_cell_at hr (by decide) (by rfl) (pa_cons (pv 0) (pa_cons (pe_op op_add pe_int (pe_op op_mul pe_int (pv 8))) pa_nil))) pa_nil)) pe_int)))
      (pss_cons (ps_set (i := 4) sc_law.nd rfl (Or.inl rfl) (pe_op op_add (pv 1) (pe_op op_mod (pe_cal C__law_cell_at hr (by decide) (by rfl) (pa_cons (pv 0) (pa_cons pe_int pa_nil))) pe_int)))
      (pss_cons (ps_if (pt_cmpR op_eq (pe_op op_mod (pe_op op_fdiv (pe_cal C__law_cell_at hr (by decide) (by rfl) (pa_cons (pv 0) (pa_cons pe_int pa_nil))) pe_int) pe_int) pe_int (nomark _)) (pss_one (ps_set (i := 4) sc_law.nd rfl (Or.inl rfl) (pe_op op_add (pv 1) (pe_op op_mod (pe_op op_fdiv (pe_cal C__law_cell_at hr (by decide) (by rfl) (pa_cons (pv 0) (pa_cons pe_int pa_nil))) pe_int) (pe_op op_sub pe_int (pv 1)))))) pss_nil)
      (pss_cons (ps_set (i := 5) sc_law.nd rfl (Or.inl rfl) (pe_callTy call_list_of (by rfl) T.b_list (by decide +kernel) (pa_cons (pv 2) pa_nil)))
      (pss_cons (ps_set (i := 6) sc_law.nd rfl (Or.inl rfl) (pe_callTy call_list_of (by rfl) T.b_list (by decide +kernel) (pa_cons (pv 3) pa_nil)))
      (pss_cons (ps_set (i := 7) sc_law.nd rfl (Or.inl rfl) (pe_cal C_learnt hr (by decide) (by rfl) (pa_cons (pv 5) (pa_cons (pv 6) (pa_cons (pv 4) pa_nil)))))
      (pss_cons (ps_if (PW.pt (pw_or (pt_not (pt_val (pe_cal C__law_numbers_alike hr (by decide) (by rfl) (pa_cons (pv 5) (pa_cons (pv 2) pa_nil))))) (pw_or1 (pt_not (pt_val (pe_cal C__law_numbers_alike hr (by decide) (by rfl) (pa_cons (pv 6) (pa_cons (pv 3) pa_nil)))))))) (pss_one (ps_ret pe_bl)) pss_nil)
      (pss_one (ps_ret (pe_cal C__law_numbers_alike hr (by decide) (by rfl) (pa_cons (pv 7) (pa_cons (pe_cal C__law_learnt_by hr (by decide) (by rfl) (pa_cons (pv 2) (pa_cons (pv 3) (pa_cons (pv 4) pa_nil)))) pa_nil)))))))))))))), ?_⟩
  refine q_asg (ev_cal (ea_cons (ev_cal (ea_cons (ev_var rfl) (ea_cons ev_c ea_nil)) (spv_cell (j := 0) hs rfl)) ea_nil) (spv fun _ _ Q E q => ⟨_, rfl, q⟩)) fun H1 e1 => ?_
  have hn1 := manyOf_pos (cel ns 0)
  obtain ⟨n, hn⟩ : ∃ n : Nat, manyOf (cel ns 0) = (n : Int) := ⟨(manyOf (cel ns 0)).toNat, by omega⟩
  rw [hn] at hn1 ⊢
  obtain ⟨hn1, hn2⟩ := hn1
  refine q_asgL (el_mapR ((sharesF ns n).map V.int) (ea_cons (ev_var rfl) ea_nil) ⟨by omega, by omega⟩ (by simp [sharesF]) (fun _ => rfl) (fun i y H2 e2 hi hy => ?_)) fun a1 H2 ha1 e2 h2 => ?_
  · obtain ⟨y, rfl, hy2⟩ := int_at hy
    obtain ⟨rfl, _⟩ := range_at hy2
    exact ev_cal (ea_cons (ev_cal (ea_cons (ev_var rfl) (ea_cons (ev_op ev_c (ev_op ev_c (ev_var rfl) (rv_mul (.inl (by decide)))) rv_I0) ea_nil)) (spv_cell (j := 2 + 2 * i) (ex_l (e1.trans e2) hs) (by omega))) ea_nil) (spv fun _ _ Q E q => ⟨_, rfl, q⟩)
  have e12 := e1.trans e2
  refine q_asgL (el_mapR ((countsF ns n).map V.int) (ea_cons (ev_var rfl) ea_nil) ⟨by omega, by omega⟩ (by simp [countsF]) (fun _ => rfl) (fun i y H2 e2 hi hy => ?_)) fun a2 H3 ha2 e3 h3 => ?_
  · obtain ⟨y, rfl, hy2⟩ := int_at hy
    obtain ⟨rfl, _⟩ := range_at hy2
    exact ev_op (ev_cal (ea_cons (ev_cal (ea_cons (ev_var rfl) (ea_cons (ev_op ev_c (ev_op ev_c (ev_var rfl) (rv_mul (.inl (by decide)))) rv_I0) ea_nil)) (spv_cell (j := 3 + 2 * i) (ex_l (e12.trans e2) hs) (by omega))) ea_nil) (spv fun _ _ Q E q => ⟨_, rfl, q⟩)) ev_c rv_I0
  have e13 := e12.trans e3
  have hS := shares_ok (ns := ns) (by omega) (by omega : n ≤ 40)
  have hC := counts_ok (ns := ns) (n := n)
  refine q_asg (ev_op (ev_var rfl) (ev_op (ev_cal (ea_cons (ev_var rfl) (ea_cons ev_c ea_nil)) (spv_cell (j := 1) (ex_l e13 hs) rfl)) ev_c (rv_mod (by decide))) rv_I0) fun H4 e4 => ?_
  have e14 := e13.trans e4
  refine q_ifAsg (v := .int (capOf ns n)) (et_test (ev_op (ev_op (ev_op (ev_cal (ea_cons (ev_var rfl) (ea_cons ev_c ea_nil)) (spv_cell (j := 1) (ex_l e14 hs) rfl)) ev_c (rv_fdiv (by decide))) ev_c (rv_mod (by decide))) ev_c (rv_eq rfl))) (fun hb => ?_) (fun hb => ?_) fun H5 e5 => ?_
  · have hc : cel ns 1 / 60 % 4 = 1 := V.int.inj (of_decide_eq_true hb)
    refine ev_is (ev_op (ev_var rfl) (ev_op (ev_op (ev_cal (ea_cons (ev_var rfl) (ea_cons ev_c ea_nil)) (spv_cell (j := 1) (ex_l e14 hs) rfl)) ev_c (rv_fdiv (by decide))) (ev_op ev_c (ev_var rfl) rv_I0) (rv_mod (by omega))) rv_I0) ?_
    unfold capOf
    rw [if_pos hc]
  · have hc : ¬ cel ns 1 / 60 % 4 = 1 := fun z => of_decide_eq_false hb (by rw [z])
    unfold capOf
    rw [if_neg hc]
    rfl
  have e15 := e14.trans e5
  obtain ⟨hc1, hc2⟩ := capOf_ok (ns := ns) (by omega) (by omega : n ≤ 40)
  have hlen1 : (sharesF ns n).length = n := by simp [sharesF]
  have h2' := (e3.trans (e4.trans e5)) _ _ h2
  have h3' := (e4.trans e5) _ _ h3
  refine q_asgL (el_listof (ev_var rfl) (sq_of h2')) fun b1 H6 hb1 e6 h6 => ?_
  refine q_asgL (el_listof (ev_var rfl) (sq_of (e6 _ _ h3'))) fun b2 H7 hb2 e7 h7 => ?_
  have g1 := (e6.trans e7) _ _ h2'
  have g2 := (e6.trans e7) _ _ h3'
  have g3 := e7 _ _ h6
  obtain ⟨ys, hy⟩ := halves (cap := capOf ns n) _ (sumZ (sharesF ns n) (countsF ns n)) (Nat.le_refl _) (sumZ_pos (fun x hx => (hS.2.2 x hx).1) fun x hx => (hC.2 x hx).1) (by rw [sumZ_len hC.1, hlen1]; exact hc1)
  refine q_asgL (el_cal (ea_cons (ev_var rfl) (ea_cons (ev_var rfl) (ea_cons (ev_var rfl) ea_nil))) (spl fun H8 e8 Q E q => ⟨b1, b2, sharesF ns n, countsF ns n, ys, capOf ns n, rfl, e8 _ _ g3, e8 _ _ h7, hS, hC, by rw [hlen1]; exact hc1, hc2, hy, q⟩)) fun p H8 hp e8 h8 => ?_
  refine q_when (b := false) (et_or (a := false) (et_not (a := true) (et_B (ev_cal (ea_cons (ev_var rfl) (ea_cons (ev_var rfl) ea_nil)) (spv_alike (e8 _ _ g3) (e8 _ _ g1))))) fun _ => et_not (a := true) (et_B (ev_cal (ea_cons (ev_var rfl) (ea_cons (ev_var rfl) ea_nil)) (spv_alike (e8 _ _ h7) (e8 _ _ g2))))) (fun hx => nomatch hx) (fun _ H9 e9 => ?_)
  have e89 := e8.trans e9
  have eall : Ex H H9 := ((e15.trans (e6.trans e7)).trans e89)
  -- the last call's second argument is a new list
  refine s_retArg2L (ev_var rfl) (el_cal (ea_cons (ev_var rfl) (ea_cons (ev_var rfl) (ea_cons (ev_var rfl) ea_nil))) (spl fun H10 e10 Q E q => ⟨a1, a2, sharesF ns n, countsF ns n, ys, capOf ns n, rfl, sq_of (e10 _ _ (e89 _ _ g1)), sq_of (e10 _ _ (e89 _ _ g2)), hS, hC, by rw [hlen1]; exact hc1, hy, q⟩)) (fun r H10 e10 h10 => spv_alike (e10 _ _ (e9 _ _ h8)) h10) fun H11 e11 => q H11 (eall.trans e11)
end
theorem all_mk {l : PySem.W.OpenLaw} {w : World} {K : PySem.W.Frag} {h : Heap} {mg : Str → Option Value} {fa f0 f1 f2 f3 f4 f5 f6 f7 f8 f9 f10 f11 : Addr} (X : K.In h) (G : h.Ns mainGlobals mg) (hfa : mg "law" = some (.ref fa))
    {tk_GREATEST_CAP tk_GREATEST_SHARE tk_MOST_SHARES : Tok}
    {od0 an0 od1 an1 od2 an2 od3 an3 od4 an4 od5 an5 od6 an6 od7 an7 od8 an8 od9 an9 od10 an10 od11 an11 : Option Addr} {sl0 sl1 sl2 sl3 sl4 sl5 sl6 sl7 sl8 sl9 sl10 sl11 : Array (Option Value)} {oc0 kV0 dc0 pm0 cd0 ct0 oc1 kV1 dc1 pm1 cd1 ct1 oc2 kV2 dc2 pm2 cd2 ct2 oc3 kV3 dc3 pm3 cd3 ct3 oc4 kV4 dc4 pm4 cd4 ct4 oc5 kV5 dc5 pm5 cd5 ct5 oc6 kV6 dc6 pm6 cd6 ct6 oc7 kV7 dc7 pm7 cd7 ct7 oc8 kV8 dc8 pm8 cd8 ct8 oc9 kV9 dc9 pm9 cd9 ct9 oc10 kV10 dc10 pm10 cd10 ct10 oc11 kV11 dc11 pm11 cd11 ct11 : Value}
    (a0 : PySem.W.nsIn K mainGlobals "is_whole" = some (some (.ref f0))) (l0 : K.lookup f0 = some ⟨oc0, od0, .func (PySem.W.fnOf "is_whole" "is_whole" (defArgs s_is_whole) (defBody s_is_whole) (defScope s_is_whole) .none kV0 dc0 pm0 an0 cd0 ct0), sl0⟩) (c0 : PySem.W.codeIn K cd0 "is_whole" = true) (k0 : PySem.W.keepIn K (.ref f0) = true)
    (a1 : PySem.W.nsIn K mainGlobals "check_shares" = some (some (.ref f1))) (l1 : K.lookup f1 = some ⟨oc1, od1, .func (PySem.W.fnOf "check_shares" "check_shares" (defArgs s_check_shares) (defBody s_check_shares) (defScope s_check_shares) .none kV1 dc1 pm1 an1 cd1 ct1), sl1⟩) (c1 : PySem.W.codeIn K cd1 "check_shares" = true) (k1 : PySem.W.keepIn K (.ref f1) = true)
    (a2 : PySem.W.nsIn K mainGlobals "check_counts" = some (some (.ref f2))) (l2 : K.lookup f2 = some ⟨oc2, od2, .func (PySem.W.fnOf "check_counts" "check_counts" (defArgs s_check_counts) (defBody s_check_counts) (defScope s_check_counts) .none kV2 dc2 pm2 an2 cd2 ct2), sl2⟩) (c2 : PySem.W.codeIn K cd2 "check_counts" = true) (k2 : PySem.W.keepIn K (.ref f2) = true)
    (a3 : PySem.W.nsIn K mainGlobals "check_cap" = some (some (.ref f3))) (l3 : K.lookup f3 = some ⟨oc3, od3, .func (PySem.W.fnOf "check_cap" "check_cap" (defArgs s_check_cap) (defBody s_check_cap) (defScope s_check_cap) .none kV3 dc3 pm3 an3 cd3 ct3), sl3⟩) (c3 : PySem.W.codeIn K cd3 "check_cap" = true) (k3 : PySem.W.keepIn K (.ref f3) = true)
    (a4 : PySem.W.nsIn K mainGlobals "learnt" = some (some (.ref f4))) (l4 : K.lookup f4 = some ⟨oc4, od4, .func (PySem.W.fnOf "learnt" "learnt" (defArgs s_learnt) (defBody s_learnt) (defScope s_learnt) .none kV4 dc4 pm4 an4 cd4 ct4), sl4⟩) (c4 : PySem.W.codeIn K cd4 "learnt" = true) (k4 : PySem.W.keepIn K (.ref f4) = true)
    (a5 : PySem.W.nsIn K mainGlobals "_law_whole" = some (some (.ref f5))) (l5 : K.lookup f5 = some ⟨oc5, od5, .func (PySem.W.fnOf "_law_whole" "_law_whole" (defArgs s_whole) (defBody s_whole) (defScope s_whole) .none kV5 dc5 pm5 an5 cd5 ct5), sl5⟩) (c5 : PySem.W.codeIn K cd5 "_law_whole" = true) (k5 : PySem.W.keepIn K (.ref f5) = true)
    (a6 : PySem.W.nsIn K mainGlobals "_law_cell_at" = some (some (.ref f6))) (l6 : K.lookup f6 = some ⟨oc6, od6, .func (PySem.W.fnOf "_law_cell_at" "_law_cell_at" (defArgs s_cell_at) (defBody s_cell_at) (defScope s_cell_at) .none kV6 dc6 pm6 an6 cd6 ct6), sl6⟩) (c6 : PySem.W.codeIn K cd6 "_law_cell_at" = true) (k6 : PySem.W.keepIn K (.ref f6) = true)
    (a7 : PySem.W.nsIn K mainGlobals "_law_many_by" = some (some (.ref f7))) (l7 : K.lookup f7 = some ⟨oc7, od7, .func (PySem.W.fnOf "_law_many_by" "_law_many_by" (defArgs s_many_by) (defBody s_many_by) (defScope s_many_by) .none kV7 dc7 pm7 an7 cd7 ct7), sl7⟩) (c7 : PySem.W.codeIn K cd7 "_law_many_by" = true) (k7 : PySem.W.keepIn K (.ref f7) = true)
    (a8 : PySem.W.nsIn K mainGlobals "_law_share_by" = some (some (.ref f8))) (l8 : K.lookup f8 = some ⟨oc8, od8, .func (PySem.W.fnOf "_law_share_by" "_law_share_by" (defArgs s_share_by) (defBody s_share_by) (defScope s_share_by) .none kV8 dc8 pm8 an8 cd8 ct8), sl8⟩) (c8 : PySem.W.codeIn K cd8 "_law_share_by" = true) (k8 : PySem.W.keepIn K (.ref f8) = true)
    (a9 : PySem.W.nsIn K mainGlobals "_law_numbers_alike" = some (some (.ref f9))) (l9 : K.lookup f9 = some ⟨oc9, od9, .func (PySem.W.fnOf "_law_numbers_alike" "_law_numbers_alike" (defArgs s_numbers_alike) (defBody s_numbers_alike) (defScope s_numbers_alike) .none kV9 dc9 pm9 an9 cd9 ct9), sl9⟩) (c9 : PySem.W.codeIn K cd9 "_law_numbers_alike" = true) (k9 : PySem.W.keepIn K (.ref f9) = true)
    (a10 : PySem.W.nsIn K mainGlobals "_law_learnt_by" = some (some (.ref f10))) (l10 : K.lookup f10 = some ⟨oc10, od10, .func (PySem.W.fnOf "_law_learnt_by" "_law_learnt_by" (defArgs s_learnt_by) (defBody s_learnt_by) (defScope s_learnt_by) .none kV10 dc10 pm10 an10 cd10 ct10), sl10⟩) (c10 : PySem.W.codeIn K cd10 "_law_learnt_by" = true) (k10 : PySem.W.keepIn K (.ref f10) = true)
    (a11 : PySem.W.nsIn K mainGlobals "law" = some (some (.ref f11))) (l11 : K.lookup f11 = some ⟨oc11, od11, .func (PySem.W.fnOf "law" "law" (defArgs s_law) (defBody s_law) (defScope s_law) .none kV11 dc11 pm11 an11 cd11 ct11), sl11⟩) (c11 : PySem.W.codeIn K cd11 "law" = true) (k11 : PySem.W.keepIn K (.ref f11) = true)
    (zb_bool : PySem.W.nsIn K mainGlobals "bool" = some none)
    (zb_int : PySem.W.nsIn K mainGlobals "int" = some none)
    (zb_isinstance : PySem.W.nsIn K mainGlobals "isinstance" = some none)
    (zb_len : PySem.W.nsIn K mainGlobals "len" = some none)
    (zb_list : PySem.W.nsIn K mainGlobals "list" = some none)
    (zb_range : PySem.W.nsIn K mainGlobals "range" = some none)
    (zb_sum : PySem.W.nsIn K mainGlobals "sum" = some none)
    (zb_zip : PySem.W.nsIn K mainGlobals "zip" = some none)
    (zg_GREATEST_CAP : PySem.W.nsIn K mainGlobals "GREATEST_CAP" = some (some (.int 1000000 tk_GREATEST_CAP)))
    (zg_GREATEST_SHARE : PySem.W.nsIn K mainGlobals "GREATEST_SHARE" = some (some (.int 1000000000000 tk_GREATEST_SHARE)))
    (zg_MOST_SHARES : PySem.W.nsIn K mainGlobals "MOST_SHARES" = some (some (.int 40 tk_MOST_SHARES))) :
    ∃ fd : FuncData, (∀ (s : Shared) (v : Value), BindsTo s fd ⟨[v], []⟩ [("_law_script", v)]) ∧ ∀ base : Heap, K.In base → base.Ns mainGlobals mg → FnOk l.prog w K mg base CX0 4 fa fd ["_law_script"] (sp_law K) := by
  have e := hfa.symm.trans (PySem.W.mg_of X G a11)
  cases e
  have T : Txt K mg := ⟨PySem.W.mg_none_of X G zb_bool, PySem.W.mg_none_of X G zb_int, PySem.W.mg_none_of X G zb_isinstance, PySem.W.mg_none_of X G zb_len, PySem.W.mg_none_of X G zb_list, PySem.W.mg_none_of X G zb_range, PySem.W.mg_none_of X G zb_sum, PySem.W.mg_none_of X G zb_zip, ⟨_, PySem.W.mg_of X G zg_GREATEST_CAP, ⟨_, rfl⟩⟩, ⟨_, PySem.W.mg_of X G zg_GREATEST_SHARE, ⟨_, rfl⟩⟩, ⟨_, PySem.W.mg_of X G zg_MOST_SHARES, ⟨_, rfl⟩⟩⟩
  have F0 := fun_mk (st := s_is_whole) l0 c0 k0
  have b0 := F0.binds (ps := ["value", "low", "high"]) fun _ _ _ _ _ _ us hl => match us, hl with | [_, _, _], _ => rfl
  have F1 := fun_mk (st := s_check_shares) l1 c1 k1
  have b1 := F1.binds (ps := ["shares"]) fun _ _ _ _ _ _ us hl => match us, hl with | [_], _ => rfl
  have F2 := fun_mk (st := s_check_counts) l2 c2 k2
  have b2 := F2.binds (ps := ["counts", "many"]) fun _ _ _ _ _ _ us hl => match us, hl with | [_, _], _ => rfl
  have F3 := fun_mk (st := s_check_cap) l3 c3 k3
  have b3 := F3.binds (ps := ["cap", "many"]) fun _ _ _ _ _ _ us hl => match us, hl with | [_, _], _ => rfl
  have F4 := fun_mk (st := s_learnt) l4 c4 k4
  have b4 := F4.binds (ps := ["shares", "counts", "cap"]) fun _ _ _ _ _ _ us hl => match us, hl with | [_, _, _], _ => rfl
  have F5 := fun_mk (st := s_whole) l5 c5 k5
  have b5 := F5.binds (ps := ["_law_found"]) fun _ _ _ _ _ _ us hl => match us, hl with | [_], _ => rfl
  have F6 := fun_mk (st := s_cell_at) l6 c6 k6
  have b6 := F6.binds (ps := ["_law_script", "_law_k"]) fun _ _ _ _ _ _ us hl => match us, hl with | [_, _], _ => rfl
  have F7 := fun_mk (st := s_many_by) l7 c7 k7
  have b7 := F7.binds (ps := ["_law_cell"]) fun _ _ _ _ _ _ us hl => match us, hl with | [_], _ => rfl
  have F8 := fun_mk (st := s_share_by) l8 c8 k8
  have b8 := F8.binds (ps := ["_law_cell"]) fun _ _ _ _ _ _ us hl => match us, hl with | [_], _ => rfl
  have F9 := fun_mk (st := s_numbers_alike) l9 c9 k9
  have b9 := F9.binds (ps := ["_law_found", "_law_due"]) fun _ _ _ _ _ _ us hl => match us, hl with | [_, _], _ => rfl
  have F10 := fun_mk (st := s_learnt_by) l10 c10 k10
  have b10 := F10.binds (ps := ["_law_shares", "_law_counts", "_law_cap"]) fun _ _ _ _ _ _ us hl => match us, hl with | [_, _, _], _ => rfl
  have F11 := fun_mk (st := s_law) l11 c11 k11
  refine ⟨PySem.W.fnOf "law" "law" (defArgs s_law) (defBody s_law) (defScope s_law) .none kV11 dc11 pm11 an11 cd11 ct11, fun s v => .of_eq rfl, fun base _ _ => ?_⟩
  have C0 : Cal l.prog w K mg base "is_whole" ["value", "low", "high"] 1 sp_isw := ⟨_, _, ok_is_whole T F0, PySem.W.mg_of X G a0, F0.kp, b0⟩
  have C1 : Cal l.prog w K mg base "check_shares" ["shares"] 2 (sp_chkS K) := ⟨_, _, ok_check_shares T F1 C0, PySem.W.mg_of X G a1, F1.kp, b1⟩
  have C2 : Cal l.prog w K mg base "check_counts" ["counts", "many"] 2 (sp_chkC K) := ⟨_, _, ok_check_counts T F2 C0, PySem.W.mg_of X G a2, F2.kp, b2⟩
  have C3 : Cal l.prog w K mg base "check_cap" ["cap", "many"] 2 sp_chkP := ⟨_, _, ok_check_cap T F3 C0, PySem.W.mg_of X G a3, F3.kp, b3⟩
  have C4 : Cal l.prog w K mg base "learnt" ["shares", "counts", "cap"] 3 (sp_learnt K) := ⟨_, _, ok_learnt T F4 C1 C2 C3, PySem.W.mg_of X G a4, F4.kp, b4⟩
  have C5 : Cal l.prog w K mg base "_law_whole" ["_law_found"] 1 sp_whole := ⟨_, _, ok_whole T F5, PySem.W.mg_of X G a5, F5.kp, b5⟩
  have C6 : Cal l.prog w K mg base "_law_cell_at" ["_law_script", "_law_k"] 1 (sp_cell K) := ⟨_, _, ok_cell_at T F6, PySem.W.mg_of X G a6, F6.kp, b6⟩
  have C7 : Cal l.prog w K mg base "_law_many_by" ["_law_cell"] 1 sp_many := ⟨_, _, ok_many_by T F7, PySem.W.mg_of X G a7, F7.kp, b7⟩
  have C8 : Cal l.prog w K mg base "_law_share_by" ["_law_cell"] 1 sp_share := ⟨_, _, ok_share_by T F8, PySem.W.mg_of X G a8, F8.kp, b8⟩
  have C9 : Cal l.prog w K mg base "_law_numbers_alike" ["_law_found", "_law_due"] 2 (sp_alike K) := ⟨_, _, ok_numbers_alike T F9 C5, PySem.W.mg_of X G a9, F9.kp, b9⟩
  have C10 : Cal l.prog w K mg base "_law_learnt_by" ["_law_shares", "_law_counts", "_law_cap"] 1 (sp_learntB K) := ⟨_, _, ok_learnt_by T F10, PySem.W.mg_of X G a10, F10.kp, b10⟩
  exact ok_law T F11 C7 C4 C9 C6 C8 C10
end SP
open PySem PySem.W PyProof.Rows
set_option maxRecDepth 100000 in
set_option maxHeartbeats 0 in
theorem PySem.Challenge.cw_sharepack_k01_a_block_learnt_holds : PySem.Challenge.rw_sharepack_k01_a_block_learnt.Holds := by
  w_on; o_law; k_head; (case hw => w_witness2)
  k_fill
  refine L2.walk_ofK (l := PySem.Challenge.rw_sharepack_k01_a_block_learnt) (n := 63) (k := 4) (x := "_law_script") (CX := L2.CX0) (sp := fun K => SP.sp_law K) rfl (by decide) rfl ⟨rfl, by decide, by decide⟩ (fun w h Y => PySem.W.kIn_of Y) ?F (fun K H a ns hl hO hS => SP.law_start hl hS) (fun _ _ _ _ h => h)
  case F =>
    intro w mg fa h KX G hmg
    refine' SP.all_mk KX G hmg ?a0 ?l0 ?c0 ?k0 ?a1 ?l1 ?c1 ?k1 ?a2 ?l2 ?c2 ?k2 ?a3 ?l3 ?c3 ?k3 ?a4 ?l4 ?c4 ?k4 ?a5 ?l5 ?c5 ?k5 ?a6 ?l6 ?c6 ?k6 ?a7 ?l7 ?c7 ?k7 ?a8 ?l8 ?c8 ?k8 ?a9 ?l9 ?c9 ?k9 ?a10 ?l10 ?c10 ?k10 ?a11 ?l11 ?c11 ?k11 ?zb_bool ?zb_int ?zb_isinstance ?zb_len ?zb_list ?zb_range ?zb_sum ?zb_zip ?zg_GREATEST_CAP ?zg_GREATEST_SHARE ?zg_MOST_SHARES
    (case a0 => k_is)
    (case l0 => k_is)
    (case c0 => k_is)
    (case k0 => k_is)
    (case a1 => k_is)
    (case l1 => k_is)
    (case c1 => k_is)
    (case k1 => k_is)
    (case a2 => k_is)
    (case l2 => k_is)
    (case c2 => k_is)
    (case k2 => k_is)
    (case a3 => k_is)
    (case l3 => k_is)
    (case c3 => k_is)
    (case k3 => k_is)
    (case a4 => k_is)
    (case l4 => k_is)
    (case c4 => k_is)
    (case k4 => k_is)
    (case a5 => k_is)
    (case l5 => k_is)
    (case c5 => k_is)
    (case k5 => k_is)
    (case a6 => k_is)
    (case l6 => k_is)
    (case c6 => k_is)
    (case k6 => k_is)
    (case a7 => k_is)
    (case l7 => k_is)
    (case c7 => k_is)
    (case k7 => k_is)
    (case a8 => k_is)
    (case l8 => k_is)
    (case c8 => k_is)
    (case k8 => k_is)
    (case a9 => k_is)
    (case l9 => k_is)
    (case c9 => k_is)
    (case k9 => k_is)
    (case a10 => k_is)
    (case l10 => k_is)
    (case c10 => k_is)
    (case k10 => k_is)
    (case a11 => k_is)
    (case l11 => k_is)
    (case c11 => k_is)
    (case k11 => k_is)
    (case zb_bool => k_is)
    (case zb_int => k_is)
    (case zb_isinstance => k_is)
    (case zb_len => k_is)
    (case zb_list => k_is)
    (case zb_range => k_is)
    (case zb_sum => k_is)
    (case zb_zip => k_is)
    (case zg_GREATEST_CAP => k_is)
    (case zg_GREATEST_SHARE => k_is)
    (case zg_MOST_SHARES => k_is)
