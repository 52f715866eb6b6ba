import PyProof.Rows.All
import Wide.All
import OpenK.AllK
import Wide.FinOn
import HandS.ForMost
import HandS.Evl
import HandS.Walk
import HandS.IsInst
import HandS.RevRange
import HandS.Gcd
import HandS.Replace
import HandS.TupLe
import PySem.Challenge.RW_sharepack_k12_whole_no_lower_cost
set_option Elab.async false
set_option linter.all false
set_option maxRecDepth 100000
set_option maxHeartbeats 4000000
set_option maxHeartbeats 4000000
namespace SP
open PySem L2 Evl

/-- a def of the module, ready to be called -/
structure Cal (P : Program) (w : World) (K : PySem.W.Frag) (mg : Str → Option Value) (base : Heap) (x : Str) (ps : List Str) (k : Nat) (sp : Sp) : Prop where
  ex : ∃ f fd, FnOk P w K mg base CX0 k f fd ps sp ∧ mg x = some (.ref f) ∧ PySem.W.keepIn K (.ref f) = true ∧ Binds K fd ps []

section
variable {X : Cx} {x : Str} {ps : List Str} {k k' : Nat} {sp : Sp} {p pos : Pos} {e : Expr} {es : List Expr} {t : TA}
theorem pe_cal (C : Cal X.prog X.w X.K X.mg X.base x ps k sp) (hr : Room k' X.A) (hk : k ≤ k') (hg : Gl X x) (ha : PA X (e :: es) t)
    (hdb : (x == ("__debug__" : Str)) = false := by decide) (he : starEach (e :: es) X.env = (false, eval e X.env) :: starEach es X.env := by rfl) (hpl : (backTo pos (starEach es X.env)).any (·.1) = false := by rfl) :
    PE X (.Call (.Name x p) (e :: es) [] pos) (tCall sp [] E0 t) := by
  obtain ⟨f, fd, G, m, kp, b⟩ := C.ex
  exact pe_call G (hr.mono hk) hg m kp b .nil pass0 ha hdb he hpl
end

theorem pe_globX {X : Cx} {x : Str} {v : V} {pos : Pos} (hg : Gl X x) (h : ∃ u, X.mg x = some u ∧ RelV v u) (hd : (x == ("__debug__" : Str)) = false := by decide) : PE X (.Name x pos) (tC v) := by
  obtain ⟨u, hm, r⟩ := h
  exact pe_glob hg hm r hd
/-! rules for a comprehension's element: the written part named by a letter -/
section
variable {X : Cx} {K : PySem.W.Frag} {a b o e : Expr} {es : List Expr} {ta tb to : TE} {t : TA} {pos apos cpos : Pos} {name : Str} {T id : String} {r : V → List V → Hp → VK → Prop}
theorem pe_ixLK (hK : X.K = K) (ha : PE X a ta) (hb : PE X b tb) (hs : PlainIx b) : PE X (.Subscript a b pos) (tOp (rIxL K) ta tb) := by
  subst hK
  exact pe_ix ix_list ha hb hs
theorem pe_ixTK (hK : X.K = K) (ha : PE X a ta) (hb : PE X b tb) (hs : PlainIx b) : PE X (.Subscript a b pos) (tOp (rIxT K) ta tb) := by
  subst hK
  exact pe_ix ix_tup ha hb hs
theorem pe_bmK (hK : X.K = K) (pa : PlainAttrs T) (slot : Slot T name id) (hty : typeOf (.builtin id) = pure (.type "method_descriptor")) (hm : MtR X id r) (ho : PE X o to) (ha : PA X (e :: es) t)
    (hbase : attributeBase o name X.env (eval o X.env) = eval o X.env := by rfl)
    (hfew : ((backTo cpos (starEach (e :: es) X.env)).all (fun x => !x.1) && (backToKw cpos (keywordEach [] X.env)).all (fun x => x.1.isSome)
      && decide ((e :: es).length + ([] : List Keyword).length + (if ([] : List Keyword).isEmpty then 0 else 1) < 30)) = true := by rfl)
    (hline : (apos.endLine == cpos.line) = true := by rfl) (hs : starEach (e :: es) X.env = (false, eval e X.env) :: starEach es X.env := by rfl) (hplain : (backTo cpos (starEach es X.env)).any (·.1) = false := by rfl) :
    PE X (.Call (.Attribute o name apos) (e :: es) [] cpos) (tBM K T r to t) := by
  subst hK
  exact pe_bm pa slot hty hm ho ha hbase hfew hline hs hplain
end
section
variable {K : PySem.W.Frag} {σ : L2.St} {H H' : Hp} {ta tb te tx : TE} {t u : TT} {x y z v : V} {r : R2}
theorem ev_cal {sp : Sp} {vs : List V} {E : XK} {ta : TA} (h : EvA ta σ H vs) (hs : SpV sp vs H z) : Ev (tCall sp [] E ta) σ H z :=
  ev_call h (by rw [List.append_nil]; exact hs)
theorem el_cal {sp : Sp} {vs xs : List V} {E : XK} {ta : TA} (h : EvA ta σ H vs) (hs : SpL sp vs H xs) : EvL (tCall sp [] E ta) σ H xs :=
  el_call h (by rw [List.append_nil]; exact hs)
theorem rv_fdiv {i j : Int} (hc : 0 < j ∧ j < 1073741824) : RV (rI CDiv fun i j => .int (i / j)) (.int i) (.int j) H (.int (i / j)) := rv_I hc
theorem rv_mod {i j : Int} (hc : 0 < j) : RV (rI (fun _ j => 0 < j) fun i j => .int (i % j)) (.int i) (.int j) H (.int (i % j)) := rv_I (C := fun _ j => 0 < j) hc
theorem rv_mul {i j : Int} (hc : CMul i j) : RV (rI CMul fun i j => .int (i * j)) (.int i) (.int j) H (.int (i * j)) := rv_I hc
theorem rv_addS {i j : Str} (h : i.length + j.length ≤ sizeLine) : RV (fun x y H Q => ∃ i j, x = .str i ∧ y = .str j ∧ i.length + j.length ≤ sizeLine ∧ Q (.str (i ++ j)) H) (.str i) (.str j) H (.str (i ++ j)) :=
  fun H1 _ _ q => ⟨i, j, rfl, rfl, h, q H1 (Ex.refl H1)⟩
/-- len of a list | a text -/
theorem ev_lenL {K : PySem.W.Frag} {p : Addr} {xs : List V} (ha : Ev ta σ H (.ref p)) (h : SqL K H p xs) : Ev (tCB (rLenS K) (tCons ta tNil)) σ H (.int (xs.length : Int)) := ev_len ha h
theorem ev_lenT {K : PySem.W.Frag} {p : Addr} {xs : List V} (ha : Ev ta σ H (.ref p)) (h : SqT K H p xs) : Ev (tCB (rLenS K) (tCons ta tNil)) σ H (.int (xs.length : Int)) := fun H1 e Q q =>
  ha H1 e _ fun H2 e2 => ⟨p, xs, rfl, Or.inr (ex_t (e.trans e2) h), q H2 e2⟩
theorem ev_lenZ {z : Str} (ha : Ev ta σ H (.str z)) (h : z.length ≤ sizeLine) : Ev (tCB (fun xs H Q => ∃ z, xs = [.str z] ∧ z.length ≤ sizeLine ∧ Q (.int z.length) H) (tCons ta tNil)) σ H (.int (z.length : Int)) := fun H1 e Q q =>
  ha H1 e _ fun H2 e2 => ⟨z, rfl, h, q H2 e2⟩
/-- isinstance(x, T), T a built-in class -/
theorem ev_isi {n a : String} {b : Bool} (ha : Ev ta σ H x) (hb : Ev tb σ H (.ty n)) (ht : ∀ H1, Ex H H1 → TyX K H1 x (.type a)) (h : kitB a n = some b) : Ev (tCB (rIsi K) (tCons ta (tCons tb tNil))) σ H (.bl b) := fun H1 e Q q =>
  ha H1 e _ fun H2 e2 => hb H2 (e.trans e2) _ fun H3 e3 => ⟨x, .ty n, .type a, .type n, b, rfl, .ty n, ht H3 ((e.trans e2).trans e3), kit_ty h, q H3 (e2.trans e3)⟩
theorem ty_int {i : Int} : TyX K H (.int i) (.type "int") := .base (.int i)
theorem ty_lst {a : Addr} {xs : List V} (e : H a = some (.lst xs)) : TyX K H (.ref a) (.type "list") := .base (.lst e)
theorem ty_tup {a : Addr} {xs : List V} (e : H a = some (.tup xs)) : TyX K H (.ref a) (.type "tuple") := .base (.tup e)
theorem ty_str {z : Str} : TyX K H (.str z) (.type "str") := .base (.str z)
/-- list(x) of a list -/
theorem el_listof {p : Addr} {xs : List V} (ha : Ev ta σ H (.ref p)) (h : SqL K H p xs) : EvL (tCB (rListS K) (tCons ta tNil)) σ H xs := el_list ha h
/-- sum of a list of ints -/
theorem ev_sum {p : Addr} {ns : List Int} (ha : Ev ta σ H (.ref p)) (h : SqL K H p (ns.map V.int)) : Ev (tCB (rSum K) (tCons ta tNil)) σ H (.int ns.sum) := fun H1 e Q q =>
  ha H1 e _ fun H2 e2 => ⟨p, ns, rfl, ex_l (e.trans e2) h, q H2 e2⟩
theorem ev_sumN {ns : List Int} (ha : EvL ta σ H (ns.map V.int)) : Ev (tCB (rSum K) (tCons ta tNil)) σ H (.int ns.sum) := fun H1 e Q q =>
  ha H1 e _ fun p H2 _ e2 h2 => ⟨p, ns, rfl, sq_of h2, q H2 e2⟩
/-- a < b < c over ints -/
theorem ev_chain {p q : Int → Int → Bool} {i j k : Int} {tc : TE} (ha : Ev ta σ H (.int i)) (hb : Ev tb σ H (.int j)) (hc : Ev tc σ H (.int k)) :
    Ev (tChain (rI0 fun i j => .bl (p i j)) (rI0 fun i j => .bl (q i j)) ta tb tc) σ H (.bl (p i j && q j k)) := fun H1 e Q h =>
  ha H1 e _ fun H2 e2 => hb H2 (e.trans e2) _ fun H3 e3 => ⟨i, j, rfl, rfl, p i j, rfl, by
    cases hp : p i j with
    | true =>
      show tc σ H3 _
      exact hc H3 ((e.trans e2).trans e3) _ fun H4 e4 => ⟨j, k, rfl, rfl, (by
        have h4 := h H4 ((e2.trans e3).trans e4)
        rw [hp] at h4
        exact h4)⟩
    | false =>
      show Q (.bl false) H3
      have := h H3 (e2.trans e3)
      rw [hp] at this
      exact this⟩
theorem spv {sp : Sp} {vs : List V} (h : ∀ H1, Ex H H1 → ∀ (Q : VK) (E : XK), RetV z H1 Q → sp vs H1 Q E) : SpV sp vs H z := fun H1 e Q q E => h H1 e Q E q
theorem spl {sp : Sp} {vs xs : List V} (h : ∀ H1, Ex H H1 → ∀ (Q : VK) (E : XK), RetL xs H1 Q → sp vs H1 Q E) : SpL sp vs H xs := fun H1 e Q q E => h H1 e Q E q
/-- return f(x, y), y a new list -/
theorem s_retArg2L {D : Ends} {sp : Sp} {E : XK} {p : Addr} {ys : List V} (ha : Ev ta σ H (.ref p)) (hb : EvL tb σ H ys) (hs : ∀ r H1, Ex H H1 → H1 r = some (.lst ys) → SpV sp [.ref p, .ref r] H1 z) (k : ∀ H1, Ex H H1 → D.rt z H1) :
    tRet (tCall sp [] E (tCons ta (tCons tb tNil))) D σ H :=
  ha H (Ex.refl H) _ fun H1 e1 => hb H1 e1 _ fun r H2 _ e2 h2 => hs r H2 (e1.trans e2) h2 H2 (Ex.refl H2) _ (fun H3 e3 => k H3 ((e1.trans e2).trans e3)) E
/-- a call whose one argument is a new list -/
theorem el_cal1N {sp : Sp} {E : XK} {xs ys : List V} (ha : EvL ta σ H xs) (hs : ∀ r H1, Ex H H1 → H1 r = some (.lst xs) → SpL sp [.ref r] H1 ys) : EvL (tCall sp [] E (tCons ta tNil)) σ H ys := fun H1 e Q q =>
  ha H1 e _ fun r H2 _ e2 h2 => hs r H2 (e.trans e2) h2 H2 (Ex.refl H2) Q (fun p H3 hp e3 h3 => q p H3 (fresh_back e2 hp) (e2.trans e3) h3) E
theorem ev_cal1N {sp : Sp} {E : XK} {xs : List V} (ha : EvL ta σ H xs) (hs : ∀ r H1, Ex H H1 → H1 r = some (.lst xs) → SpV sp [.ref r] H1 z) : Ev (tCall sp [] E (tCons ta tNil)) σ H z := fun H1 e Q q =>
  ha H1 e _ fun r H2 _ e2 h2 => hs r H2 (e.trans e2) h2 H2 (Ex.refl H2) Q (fun H3 e3 => q H3 (e2.trans e3)) E
theorem ev_neg {i : Int} (ha : Ev ta σ H (.int i)) : Ev (tUn (rU fun i => .int (-i)) ta) σ H (.int (-i)) := ev_un ha ru_neg
/-- the script's cell at a place, 0 behind its end -/
def cel (ns : List Int) (j : Nat) : Int := ns.getD j 0
theorem cel_in {ns : List Int} {j : Nat} (h : j < ns.length) : atI (ns.map V.int) ((j : Nat) : Int) = some (V.int (cel ns j)) := by
  refine atI_nat ?_
  unfold cel
  rw [List.getElem?_map, List.getElem?_eq_getElem h, List.getD_eq_getElem?_getD, List.getElem?_eq_getElem h]
  rfl
theorem cel_out {ns : List Int} {j : Nat} (h : ¬ j < ns.length) : cel ns j = 0 := by
  unfold cel
  rw [List.getD_eq_getElem?_getD, List.getElem?_eq_none (by omega)]
  rfl
/-- the item of a list of ints -/
theorem int_at {ns : List Int} {n : Nat} {x : V} (hx : (ns.map V.int)[n]? = some x) : ∃ z : Int, x = V.int z ∧ ns[n]? = some z := by
  rw [List.getElem?_map] at hx
  cases hz : ns[n]? with
  | none => rw [hz] at hx; cases hx
  | some z => rw [hz] at hx; exact ⟨z, (Option.some.inj hx).symm, rfl⟩
/-! comprehensions without a test: the whole list that they make -/
def Cm (H : Hp) (ys : List V) (Dl : Addr) (i : Nat) (H' : Hp) : Prop := H Dl = none ∧ Ex H H' ∧ H' Dl = some (.lst (ys.take i))
theorem take_snoc {ys : List V} {i : Nat} {y : V} (h : ys[i]? = some y) : ys.take (i + 1) = ys.take i ++ [y] := by
  rw [List.take_add_one, h]
  rfl
theorem cm_turn {H H' H2 : Hp} {ys : List V} {Dl : Addr} {i : Nat} {σ2 : L2.St} {y : V} (p : Cm H ys Dl i H') (e2 : Ex H' H2) (hi : ys[i]? = some y) (hz : ys.length ≤ 50000) (he : Ev te σ2 H y) :
    te σ2 H2 fun y H4 => ∃ acc, H4 Dl = some (.lst acc) ∧ acc.length < sizeLine ∧ Cm H ys Dl (i + 1) (upd H4 Dl (.lst (acc ++ [y]))) := by
  obtain ⟨p1, p2, p3⟩ := p
  refine he H2 (p2.trans e2) _ fun H4 e4 => ⟨ys.take i, e4 Dl _ (e2 Dl _ p3), sz_lt ?_, p1, Ex.mut ((p2.trans e2).trans e4) p1, ?_⟩
  · rw [List.length_take]
    omega
  · rw [take_snoc hi]
    exact upd_same
theorem cm_end {H H' : Hp} {ys : List V} {Dl : Addr} {n : Nat} (p : Cm H ys Dl n H') (hn : ys.length = n) : H' Dl = some (.lst ys) := by
  have := p.2.2
  rwa [List.take_of_length_le (by omega)] at this
theorem get_of {ys : List V} {i n : Nat} (hn : ys.length = n) (hi : i < n) : ∃ y, ys[i]? = some y := ⟨ys[i], List.getElem?_eq_getElem (by omega)⟩
/-- over a list -/
theorem el_mapL {a : Addr} {xs : List V} {tl : TE} {j : Nat} {vs : List Nat} (ys : List V) (h : Ev tl σ H (.ref a)) (hx : SqL K H a xs) (hn : ys.length = xs.length) (hz : xs.length ≤ 40000) (hw : ∀ x, wipe ((wipe σ vs).set j (some x)) vs = wipe σ vs)
    (he : ∀ (i : Nat) (x y : V) H1, Ex H H1 → xs[i]? = some x → ys[i]? = some y → Ev te ((wipe σ vs).set j (some x)) H1 y) : EvL (tLc (iList K tl) (gName j) tYes te vs) σ H ys := fun H0 e Q q => h H0 e _ fun H1 e1 => ⟨a, rfl, ⟨xs, ex_l (e.trans e1) hx⟩, fun Dl hD =>
  lc_list (xs := xs) (Cm H1 ys Dl) ⟨hD, Ex.new hD, upd_same⟩ (fun i H' _ p => ex_l ((e.trans e1).trans p.2.1) hx) (fun i x H' hi p => by
    obtain ⟨y, hy⟩ := get_of hn (List.getElem?_eq_some_iff.mp hi).1
    refine ⟨hw x, ?_⟩
    show te _ H' _
    exact cm_turn p (Ex.refl _) hy (by omega) (he i x y H1 (e.trans e1) hi hy)) (fun H' p => q Dl H' (fresh_back e1 p.1) (e1.trans p.2.1) (cm_end p hn))⟩
/-- over a range from 0 -/
theorem el_mapR {ta : TA} {j : Nat} {vs : List Nat} {n : Int} (ys : List V) (h : EvA ta σ H [.int n]) (hn : 0 ≤ n ∧ n ≤ 40000) (hl : ys.length = n.toNat) (hw : ∀ x, wipe ((wipe σ vs).set j (some x)) vs = wipe σ vs)
    (he : ∀ (i : Nat) (y : V) H1, Ex H H1 → (i : Int) < n → ys[i]? = some y → Ev te ((wipe σ vs).set j (some (.int (i : Int)))) H1 y) : EvL (tLc (iRng1 ta) (gName j) tYes te vs) σ H ys := fun H0 e Q q => h H0 e _ fun H1 e1 => ⟨n, rfl, by omega, by omega, fun Dl hD =>
  lc_range (lo := 0) (n := n.toNat) (Cm H1 ys Dl) ⟨hD, Ex.new hD, upd_same⟩ (fun i H' hi p => by
    obtain ⟨y, hy⟩ := get_of hl hi
    have e0 : (0 : Int) + (i : Int) = (i : Int) := Int.zero_add _
    show wipe ((wipe σ vs).set j (some (.int ((0 : Int) + (i : Int))))) vs = wipe σ vs ∧ te ((wipe σ vs).set j (some (.int ((0 : Int) + (i : Int))))) H' _
    rw [e0]
    exact ⟨hw _, cm_turn p (Ex.refl _) hy (by omega) (he i y H1 (e.trans e1) (by omega) hy)⟩) (fun H' p => q Dl H' (fresh_back e1 p.1) (e1.trans p.2.1) (cm_end p hl))⟩
/-- over zip of two lists, the target two names -/
theorem el_mapZ {ta : TA} {a b : Addr} {xs zs : List V} {i j : Nat} {vs : List Nat} (ys : List V) (h : EvA ta σ H [.ref a, .ref b]) (hx : SqL K H a xs) (hx2 : SqL K H b zs) (hl : xs.length = zs.length) (hn : ys.length = xs.length) (hz : xs.length ≤ 40000)
    (hw : ∀ x y, wipe (((wipe σ vs).set i (some x)).set j (some y)) vs = wipe σ vs)
    (he : ∀ (k : Nat) (x z y : V) H1, Ex H H1 → xs[k]? = some x → zs[k]? = some z → ys[k]? = some y → Ev te (((wipe σ vs).set i (some x)).set j (some z)) H1 y) : EvL (tLc (iZip K ta) (gTup K 2 (gCons (gName i) (gCons (gName j) gNil))) tYes te vs) σ H ys := fun H0 e Q q => h H0 e _ fun H1 e1 =>
  ⟨a, b, xs, zs, rfl, ex_l (e.trans e1) hx, ex_l (e.trans e1) hx2, fun Dl hD =>
  lc_it (walk_zip (n := xs.length) (by omega)) (Cm H1 ys Dl) ⟨hD, Ex.new hD, upd_same⟩ (fun k H' _ p => ⟨ex_l ((e.trans e1).trans p.2.1) hx, ex_l ((e.trans e1).trans p.2.1) hx2⟩) (fun k v H' H2 hk p yy => by
    obtain ⟨T, x, z, rfl, hT, rfl, g1, g2⟩ := yy
    obtain ⟨y, hy⟩ := get_of hn hk
    refine ⟨T, [x, z], rfl, st_of upd_same, rfl, x, [z], rfl, z, [], rfl, rfl, hw x z, ?_⟩
    show te _ _ _
    exact cm_turn p (Ex.new hT) hy (by omega) (he k x z y H1 (e.trans e1) g1 g2 hy)) (fun H' p => q Dl H' (fresh_back e1 p.1) (e1.trans p.2.1) (cm_end p hn))⟩
/-- a loop over zip of two lists, the target two names -/
theorem q_forZ {tz : TS} {D : Ends} {ta : TA} {tu : TS} {a b : Addr} {xs ys : List V} {i j : Nat} (h : EvA ta σ H [.ref a, .ref b]) (hx : SqL K H a xs) (hy : SqL K H b ys) (hl : xs.length = ys.length) (Pv : Nat → L2.St → Hp → Prop) (h0 : ∀ H1, Ex H H1 → Pv 0 σ H1)
    (hq : ∀ i σ' H', Pv i σ' H' → Ex H H')
    (hs : ∀ (n : Nat) (x y : V) (σ' : L2.St) (H' H2 : Hp), xs[n]? = some x → ys[n]? = some y → Pv n σ' H' → Ex H' H2 → tu { D with nx := Pv (n + 1), ct := Pv (n + 1), bk := tz D } ((σ'.set i (some x)).set j (some y)) H2) (hd : ∀ σ' H', Pv xs.length σ' H' → tz D σ' H') :
    tSeq (tFor (iZip K ta) (gTup K 2 (gCons (gName i) (gCons (gName j) gNil))) tu) tz D σ H :=
  h H (Ex.refl H) _ fun H1 e => ⟨a, b, xs, ys, rfl, ex_l e hx, ex_l e hy, for_it (walk_zip (n := xs.length) (by omega)) Pv (h0 H1 e) (fun k σ' H' _ p => ⟨ex_l (hq _ _ _ p) hx, ex_l (hq _ _ _ p) hy⟩) (fun n v σ' H' H2 hn p y => by
    obtain ⟨T, x, z, rfl, hT, rfl, e1, e2⟩ := y
    exact ⟨T, [x, z], rfl, st_of upd_same, rfl, x, [z], rfl, z, [], rfl, rfl, hs n x z σ' H' _ e1 e2 p (Ex.new hT)⟩) hd⟩
end
end SP

set_option maxHeartbeats 4000000
/-! binary heaps as lists: a swap, going down to a leaf, going up again -/
namespace HM
section
variable {α : Type} (le : α → α → Prop)
def Child (p c : Nat) : Prop := c = 2 * p + 1 ∨ c = 2 * p + 2
theorem Child.par {p c : Nat} (h : Child p c) : p = (c - 1) / 2 ∧ p < c := by
  unfold Child at h
  omega
theorem Child.of {c : Nat} (h : 0 < c) : Child ((c - 1) / 2) c := by
  unfold Child
  omega
theorem Child.uni {p q c : Nat} (h : Child p c) (h' : Child q c) : p = q := by
  unfold Child at h h'
  omega
inductive Sub (top : Nat) : Nat → Prop where
  | base : Sub top top
  | step {q c : Nat} : Sub top q → Child q c → Sub top c
theorem Sub.ge {top q : Nat} (h : Sub top q) : top ≤ q := by
  induction h with
  | base => exact Nat.le_refl _
  | step _ hc ih =>
    have := hc.par
    omega
theorem Sub.up {top c q : Nat} (h : Sub top c) (hc : Child q c) (hn : top < c) : Sub top q := by
  cases h with
  | base => omega
  | step h' hc' =>
    rw [hc.uni hc']
    exact h'
def Ok (g : Nat → α) (n top : Nat) : Prop := ∀ p c, c < n → Child p c → top ≤ p → le (g p) (g c)
def Dn (g : Nat → α) (n top pos : Nat) : Prop :=
  (∀ p c, c < n → Child p c → top ≤ p → p ≠ pos → c ≠ pos → le (g p) (g c)) ∧ ∀ q c, Child q pos → top ≤ q → c < n → Child pos c → le (g q) (g c)
def Up (g : Nat → α) (n top pos : Nat) : Prop :=
  (∀ p c, c < n → Child p c → top ≤ p → c ≠ pos → le (g p) (g c)) ∧ ∀ q c, Child q pos → top ≤ q → c < n → Child pos c → le (g q) (g c)
/-- i and j swapped -/
def sw (g : Nat → α) (i j : Nat) : Nat → α := fun k => if k = i then g j else if k = j then g i else g k
theorem sw_i (g : Nat → α) (i j : Nat) : sw g i j i = g j := by simp [sw]
theorem sw_j (g : Nat → α) (i j : Nat) : sw g i j j = g i := by
  unfold sw
  by_cases h : j = i
  · rw [if_pos h, h]
  · rw [if_neg h, if_pos rfl]
theorem sw_o (g : Nat → α) {i j k : Nat} (h1 : k ≠ i) (h2 : k ≠ j) : sw g i j k = g k := by
  unfold sw
  rw [if_neg h1, if_neg h2]
variable {le}
theorem down_step {g : Nat → α} {n top pos ch : Nat} (h : Dn le g n top pos) (ht : top ≤ pos) (hc : Child pos ch) (hn : ch < n) (hmin : ∀ c, c < n → Child pos c → le (g ch) (g c)) : Dn le (sw g ch pos) n top ch := by
  obtain ⟨h1, h2⟩ := h
  have hlt := hc.par
  refine ⟨fun p c hcn hpc htp hp hcc => ?_, fun q c hq htq hcn hcc => ?_⟩
  · by_cases e : p = pos
    · subst e
      rw [sw_j, sw_o g hcc (by have := hpc.par; omega)]
      exact hmin c hcn hpc
    · rw [sw_o g hp e]
      by_cases e2 : c = pos
      · subst e2
        rw [sw_j]
        exact h2 p ch hpc htp hn hc
      · rw [sw_o g hcc e2]
        exact h1 p c hcn hpc htp e e2
  · have e : q = pos := hq.uni hc
    subst e
    rw [sw_j, sw_o g (by have := hcc.par; omega) (by have := hcc.par; omega)]
    exact h1 ch c hcn hcc (by omega) (by omega) (by have := hcc.par; omega)
theorem down_end {g : Nat → α} {n top pos : Nat} (h : Dn le g n top pos) (hn : n ≤ 2 * pos + 1) : Up le g n top pos := by
  obtain ⟨h1, h2⟩ := h
  refine ⟨fun p c hcn hpc htp hc => ?_, h2⟩
  refine h1 p c hcn hpc htp (fun e => ?_) hc
  subst e
  unfold Child at hpc
  omega
theorem up_step (tr : ∀ x y z, le x y → le y z → le x z) {g : Nat → α} {n top pos q : Nat} (h : Up le g n top pos) (hpn : pos < n) (hq : Child q pos) (ht : top ≤ q) (hx : le (g pos) (g q)) : Up le (sw g q pos) n top q := by
  obtain ⟨h1, h2⟩ := h
  have hlt := hq.par
  refine ⟨fun p c hcn hpc htp hc => ?_, fun r c hr htr hcn hcc => ?_⟩
  · by_cases e : p = pos
    · subst e
      rw [sw_j, sw_o g (by have := hpc.par; omega) (by have := hpc.par; omega)]
      exact h2 q c hq ht hcn hpc
    · by_cases e2 : c = pos
      · subst e2
        have e3 : p = q := hpc.uni hq
        subst e3
        rw [sw_i, sw_j]
        exact hx
      · rw [sw_o g hc e2]
        by_cases e3 : p = q
        · subst e3
          rw [sw_i]
          exact tr _ _ _ hx (h1 p c hcn hpc htp e2)
        · rw [sw_o g e3 e]
          exact h1 p c hcn hpc htp e2
  · have hrq := hr.par
    rw [sw_o g (by omega) (by omega)]
    have a1 := h1 r q (by omega) hr htr (by omega)
    by_cases e : c = pos
    · subst e
      rw [sw_j]
      exact a1
    · rw [sw_o g (by have := hcc.par; omega) e]
      exact tr _ _ _ a1 (h1 q c hcn hcc ht e)
theorem up_end {g : Nat → α} {n top pos : Nat} (h : Up le g n top pos) (hx : ∀ q, Child q pos → top ≤ q → le (g q) (g pos)) : Ok le g n top := by
  intro p c hcn hpc htp
  by_cases e : c = pos
  · subst e
    exact hx p hpc htp
  · exact h.1 p c hcn hpc htp e
theorem next_dn {g : Nat → α} {n t : Nat} (h : Ok le g n (t + 1)) : Dn le g n t t := by
  refine ⟨fun p c hcn hpc htp hp hc => h p c hcn hpc (by omega), fun q c hq htq hcn hcc => ?_⟩
  have := hq.par
  omega
theorem root_least (rf : ∀ x, le x x) (tr : ∀ x y z, le x y → le y z → le x z) {g : Nat → α} {n : Nat} (h : Ok le g n 0) : ∀ i, i < n → le (g 0) (g i) := by
  intro i
  induction i using Nat.strongRecOn with
  | _ i ih =>
    intro hi
    by_cases e : i = 0
    · subst e
      exact rf _
    · have hc := Child.of (c := i) (by omega)
      have hl := hc.par
      exact tr _ _ _ (ih _ hl.2 (by omega)) (h _ _ hi hc (Nat.zero_le _))
theorem start_dn {g : Nat → α} {n : Nat} (hn : 2 ≤ n) : Dn le g n (n / 2 - 1) (n / 2 - 1) := by
  refine ⟨fun p c hcn hpc htp hp hc => ?_, fun q c hq htq hcn hcc => ?_⟩
  · unfold Child at hpc
    omega
  · have := hq.par
    omega
theorem ok_mono {g g' : Nat → α} {n top : Nat} (h : Ok le g n top) (e : ∀ i, i < n → g' i = g i) : Ok le g' n top := by
  intro p c hcn hpc htp
  have := hpc.par
  rw [e p (by omega), e c hcn]
  exact h p c hcn hpc htp
theorem push_up {g g' : Nat → α} {n : Nat} (h : Ok le g n 0) (e : ∀ i, i < n → g' i = g i) : Up le g' (n + 1) 0 n := by
  refine ⟨fun p c hcn hpc htp hc => ?_, fun q c hq htq hcn hcc => ?_⟩
  · have := hpc.par
    rw [e p (by omega), e c (by omega)]
    exact h p c (by omega) hpc htp
  · have := hcc.par
    omega
theorem pop_dn {g g' : Nat → α} {n : Nat} (h : Ok le g (n + 1) 0) (e : ∀ i, 0 < i → i < n → g' i = g i) : Dn le g' n 0 0 := by
  refine ⟨fun p c hcn hpc htp hp hc => ?_, fun q c hq htq hcn hcc => ?_⟩
  · have := hpc.par
    rw [e p (by omega) (by omega), e c (by omega) hcn]
    exact h p c (by omega) hpc htp
  · have := hq.par
    omega
end
/-! lists -/
section
variable {α : Type} {d : α}
def vw (d : α) (xs : List α) : Nat → α := fun i => xs.getD i d
/-- two places of a list swapped, the second's item first -/
def swL (xs : List α) (i j : Nat) (x y : α) : List α := (xs.set i y).set j x
theorem vw_at {xs : List α} {i : Nat} {x : α} (h : xs[i]? = some x) : vw d xs i = x := by
  unfold vw
  rw [List.getD_eq_getElem?_getD, h]
  rfl
theorem vw_set {xs : List α} {i k : Nat} {x : α} (hi : i < xs.length) : vw d (xs.set i x) k = if k = i then x else vw d xs k := by
  unfold vw
  rw [List.getD_eq_getElem?_getD, List.getD_eq_getElem?_getD, List.getElem?_set]
  by_cases e : k = i
  · subst e
    simp [hi]
  · rw [if_neg (Ne.symm e), if_neg e]
theorem vw_sw {xs : List α} {i j : Nat} {x y : α} (hx : xs[i]? = some x) (hy : xs[j]? = some y) : vw d (swL xs i j x y) = sw (vw d xs) i j := by
  funext k
  have hi := (List.getElem?_eq_some_iff.mp hx).1
  have hj := (List.getElem?_eq_some_iff.mp hy).1
  unfold swL
  rw [vw_set (by rw [List.length_set]; exact hj), vw_set hi]
  by_cases e1 : k = i
  · subst e1
    by_cases e2 : k = j
    · subst e2
      rw [if_pos rfl, sw_i, vw_at hx]
    · rw [if_neg e2, if_pos rfl, sw_i, vw_at hy]
  · by_cases e2 : k = j
    · subst e2
      rw [if_pos rfl, sw_j, vw_at hx]
    · rw [if_neg e2, if_neg e1, sw_o _ e1 e2]
theorem swL_len {xs : List α} {i j : Nat} {x y : α} : (swL xs i j x y).length = xs.length := by simp [swL]
theorem swL_perm {xs : List α} {i j : Nat} {x y : α} (hx : xs[i]? = some x) (hy : xs[j]? = some y) : (swL xs i j x y).Perm xs := by
  obtain ⟨hi, ex⟩ := List.getElem?_eq_some_iff.mp hx
  obtain ⟨hj, ey⟩ := List.getElem?_eq_some_iff.mp hy
  have h := List.set_set_perm hi hj
  unfold swL
  subst ex ey
  exact h
/-- the last item in the first one's place -/
theorem pop_perm {x l : α} {m : List α} : (x :: (m ++ [l])).Perm (x :: ((x :: m).set 0 l)) := by
  show (x :: (m ++ [l])).Perm (x :: (l :: m))
  exact List.Perm.cons _ (List.perm_append_comm (l₁ := m) (l₂ := [l]))
end
end HM

set_option maxHeartbeats 4000000
namespace HQ
open PySem L2 PyProof.Rows HM

abbrev Ky := Addr → Int × Int
def kl (kk : Ky) (a : Addr) : List Int := [(kk a).1, (kk a).2]
/-- a before b, or alike -/
def kle (kk : Ky) (a b : Addr) : Prop := (kk a).1 < (kk b).1 ∨ ((kk a).1 = (kk b).1 ∧ (kk a).2 ≤ (kk b).2)
theorem kl_lt (kk : Ky) (a b : Addr) : HT.lexLt (kl kk a) (kl kk b) = true ↔ ¬ kle kk b a := by
  unfold kl kle
  rw [HT.lexLt_cons, HT.lexLt_cons]
  by_cases h1 : (kk a).1 = (kk b).1
  · rw [if_pos h1]
    by_cases h2 : (kk a).2 = (kk b).2
    · rw [if_pos h2, HT.lexLt_nil_nil]
      constructor
      · intro h; cases h
      · intro h; exact absurd (Or.inr ⟨h1.symm, by omega⟩) h
    · rw [if_neg h2, decide_eq_true_eq]
      omega
  · rw [if_neg h1, decide_eq_true_eq]
    omega
theorem kle_rf (kk : Ky) (a : Addr) : kle kk a a := Or.inr ⟨rfl, Int.le_refl _⟩
theorem kle_tr (kk : Ky) (a b c : Addr) (h : kle kk a b) (h' : kle kk b c) : kle kk a c := by
  unfold kle at *
  omega
theorem kle_of_lt {kk : Ky} {a b : Addr} (h : HT.lexLt (kl kk a) (kl kk b) = true) : kle kk a b := by
  have := (kl_lt kk a b).mp h
  unfold kle at *
  omega
theorem kle_of_not {kk : Ky} {a b : Addr} (h : HT.lexLt (kl kk a) (kl kk b) = false) : kle kk b a := by
  rcases Classical.em (kle kk b a) with q | q
  · exact q
  · rw [(kl_lt kk a b).mpr q] at h
    cases h
/-! what a machine's turn is made of -/
def hItems (b : Addr) : Sem (Array Value) := seqItems? (.ref b) >>= fun | some ys => pure ys | _ => unsupported "internal:_heapq"
def hAt (ys : Array Value) (k : Nat) : Sem Value := match ys[k]? with | some u => pure u | none => unsupported "internal:_heapq.index"
def hSwap (b : Addr) (i j : Nat) : Sem Unit := hItems b >>= fun ys => hAt ys i >>= fun u => hAt ys j >>= fun v => updateSeq b fun zs => (zs.setIfInBounds i v).setIfInBounds j u
def hLess (b : Addr) (n : Nat) (u v : Value) : Sem Bool := holding [u, v] (richCompare .Lt u v >>= truthOfDropped) >>= fun r => hItems b >>= fun ys =>
  if (ys.size != n) = true then rule "_heapq.size-changed" >>= fun _ => raiseError "RuntimeError" "list changed size during iteration" >>= fun _ : Unit => pure r else pure r
def hCode (b : Addr) (dn : Bool) (p t : Nat) (r : Value) (k : Int) : Code := .builtin "_heapq.heapify.sift" ⟨[.ref b, .bool false, .bool dn, rawInt (p : Int), rawInt (t : Int), r, rawInt k], []⟩
theorem hCode_quiet (b : Addr) (dn : Bool) (p t : Nat) (r : Value) (k : Int) : (hCode b dn p t r k).quiet = true := plainId_quiet (id := "_heapq.heapify.sift") (by decide +kernel) _
/-- the pairs stand where the list says -/
def Keys (K : PySem.W.Frag) (H : Hp) (as : List Addr) (kk : Ky) : Prop := ∀ a ∈ as, SqT K H a ((kl kk a).map V.int)
theorem refs_of : ∀ {as : List Addr} {us : List Value}, Vals (as.map V.ref) us → us = as.map Value.ref
  | [], _, .nil => rfl
  | a :: as, _, .cons r t => by
    rw [refs_of t]
    cases r
    rfl
theorem vals_refs : ∀ as : List Addr, Vals (as.map V.ref) (as.map Value.ref)
  | [] => .nil
  | a :: as => .cons rfl (vals_refs as)
section
variable {X : Cx} {pins : List (Addr × Obj)} {σ : L2.St} {H : Hp} {s : Shared} {l : Addr} {as : List Addr} {kk : Ky} {A : Around}
theorem list_at (I : Inv X pins σ H s) (h : H l = some (.lst (as.map V.ref))) : ∃ n, s.heap.get? l = some { cls := .type "list", data := .seq (as.map Value.ref).toArray n } ∧ as.length ≤ sizeLine := by
  obtain ⟨its, n, r, e, z⟩ := I.lst h
  rw [refs_of r] at e
  exact ⟨n, e, by rwa [List.length_map] at z⟩
theorem keys_upd {as' : List Addr} (h : H l = some (.lst (as.map V.ref))) (k : Keys X.K H as' kk) (ys : List V) : Keys X.K (upd H l (.lst ys)) as' kk := by
  intro a ha
  rcases k a ha with q | q
  · refine Or.inl ?_
    rcases q with q | ⟨o, q⟩
    · exact Or.inl (by rw [upd_ne (ne_of q h fun z => nomatch z)]; exact q)
    · exact Or.inr ⟨o, by rw [upd_ne (ne_of q h fun z => nomatch z)]; exact q⟩
  · exact Or.inr q
theorem upd_self {o : HO} (h : H l = some o) : upd H l o = H := by
  funext b
  unfold upd
  by_cases e : b = l
  · rw [if_pos e, e, h]
  · rw [if_neg e]
/-- the smaller of two pairs -/
theorem less_run {a b : Addr} {E : Value → Shared → Prop} {Q : Bool → Shared → Prop} (I : Inv X pins σ H s) (ha : SqT X.K H a ((kl kk a).map V.int)) (hb : SqT X.K H b ((kl kk b).map V.int)) (hu : A.units < cLine)
    (h : Q (HT.lexLt (kl kk a) (kl kk b)) s) : wpAny (model X.prog X.w) A (holding [.ref a, .ref b] (richCompare .Lt (.ref a) (.ref b) >>= truthOfDropped)) Q E s := by
  obtain ⟨its, r1, p1, _⟩ := I.tuple ha
  obtain ⟨its2, r2, p2, _⟩ := I.tuple hb
  have i1 : IntsAre its.toArray.toList (kl kk a) := intsAre_of r1
  have i2 : IntsAre its2.toArray.toList (kl kk b) := intsAre_of r2
  refine wpAny_holding (wpAny_bind ?_)
  have g := HT.lt_tupInts (prog := X.prog) (w := X.w) (A := A) (E := E) (Q := fun v s' => wpAny (model X.prog X.w) A (truthOfDropped v) Q E s') p1 p2 i1 i2 hu (wpAny_truthy_bool h)
  exact g
theorem items_run {E : Value → Shared → Prop} {Q : Array Value → Shared → Prop} {ys : Array Value} {n : Nat} (e : s.heap.get? l = some { cls := .type "list", data := .seq ys n }) (q : Q ys s) : wpAny (model X.prog X.w) A (hItems l) Q E s := by
  unfold hItems seqItems?
  exact wpAny_bind (wpAny_bind (wpAny_load e (wpAny_pure (wpAny_pure q))))
theorem at_run {E : Value → Shared → Prop} {Q : Value → Shared → Prop} {ys : Array Value} {k : Nat} {u : Value} (e : ys[k]? = some u) (q : Q u s) : wpAny (model X.prog X.w) A (hAt ys k) Q E s := by
  unfold hAt
  rw [e]
  exact wpAny_pure q
theorem hless_run {a b : Addr} {E : Value → Shared → Prop} {Q : Bool → Shared → Prop} {ys : Array Value} {n k : Nat} (I : Inv X pins σ H s) (e : s.heap.get? l = some { cls := .type "list", data := .seq ys n }) (hn : ys.size = k) (ha : SqT X.K H a ((kl kk a).map V.int)) (hb : SqT X.K H b ((kl kk b).map V.int)) (hu : A.units < cLine)
    (h : Q (HT.lexLt (kl kk a) (kl kk b)) s) : wpAny (model X.prog X.w) A (hLess l k (.ref a) (.ref b)) Q E s := by
  unfold hLess
  refine wpAny_bind (less_run I ha hb hu (wpAny_bind (items_run e ?_)))
  rw [if_neg (by rw [hn]; simp)]
  exact wpAny_pure h
theorem swap_run {i j : Nat} {x y : Addr} {n : Nat} {E : Value → Shared → Prop} {Q : Unit → Shared → Prop} (e : s.heap.get? l = some { cls := .type "list", data := .seq (as.map Value.ref).toArray n }) (hz : as.length ≤ sizeLine)
    (hx : as[i]? = some x) (hy : as[j]? = some y) (h : Q () { s with heap := s.heap.update l (Obj.mapSeq fun xs => (xs.setIfInBounds i (.ref y)).setIfInBounds j (.ref x)) }) : wpAny (model X.prog X.w) A (hSwap l i j) Q E s := by
  unfold hSwap
  refine wpAny_bind (items_run e (wpAny_bind (at_run (u := .ref x) (by simp [hx]) (wpAny_bind (at_run (u := .ref y) (by simp [hy]) ?_)))))
  exact wpAny_updateSeq e rfl h (by simpa using hz) (by simp; omega)
theorem swap_inv {i j : Nat} {x y : Addr} {n : Nat} (I : Inv X pins σ H s) (hH : H l = some (.lst (as.map V.ref))) (e : s.heap.get? l = some { cls := .type "list", data := .seq (as.map Value.ref).toArray n }) (hz : as.length ≤ sizeLine) :
    Inv X pins σ (upd H l (.lst ((swL as i j x y).map V.ref))) { s with heap := s.heap.update l (Obj.mapSeq fun xs => (xs.setIfInBounds i (.ref y)).setIfInBounds j (.ref x)) } := by
  refine I.lset (its' := (swL as i j x y).map Value.ref) (t' := s.toks) hH e ?_ (vals_refs _) (by rw [List.length_map, swL_len]; exact hz)
  unfold swL
  simp
end
section
variable {X : Cx} {pins : List (Addr × Obj)} {σ : L2.St} {l : Addr} {kk : Ky} {A : Around}
/-- what is wanted behind a turn: the machine's next code at a state of ours, or the end -/
def Nxt (X : Cx) (pins : List (Addr × Obj)) (σ : L2.St) (l : Addr) (H : Hp) (P : Bool → Nat → Nat → Int → List Addr → Prop) (res : Value) (F : List Addr → Prop) : PySem.Fin → Shared → Prop := fun fin s' =>
  (∃ dn p t k as', fin = .again (hCode l dn p t res k) ∧ Inv X pins σ (upd H l (.lst (as'.map V.ref))) s' ∧ P dn p t k as') ∨ (∃ as', fin = .done (.ret res) ∧ Inv X pins σ (upd H l (.lst (as'.map V.ref))) s' ∧ F as')
theorem turn_down {as : List Addr} {H : Hp} {s : Shared} {pos top : Nat} {after : Int} {res : Value} {E : Value → Shared → Prop} {P : Bool → Nat → Nat → Int → List Addr → Prop} {F : List Addr → Prop} (I : Inv X pins σ H s) (hH : H l = some (.lst (as.map V.ref))) (hk : Keys X.K H as kk) (hu : A.units < cLine) (hp : pos < as.length)
    (h1 : as.length ≤ 2 * pos + 1 → P false pos top after as)
    (h2 : ∀ ch x y, Child pos ch → ch < as.length → as[ch]? = some x → as[pos]? = some y → (∀ c z, as[c]? = some z → Child pos c → kle kk x z) → P true ch top after (swL as ch pos x y)) :
    wpAny (model X.prog X.w) A (Builtin.«_heapq.heapify.sift» ⟨[.ref l, .bool false, .bool true, rawInt (pos : Int), rawInt (top : Int), res, rawInt after], []⟩) (Nxt X pins σ l H P res F) E s := by
  obtain ⟨n, e, hz⟩ := list_at I hH
  unfold Builtin.«_heapq.heapify.sift»
  dsimp only [rawInt]
  rw [Int.toNat_natCast pos, Int.toNat_natCast top]
  refine wpAny_bind (items_run e ?_)
  rw [if_pos rfl, List.size_toArray, List.length_map]
  have hpos : as[pos]? = some as[pos] := List.getElem?_eq_getElem hp
  by_cases c1 : pos < as.length / 2
  · rw [if_pos c1]
    have hl1 : 2 * pos + 1 < as.length := by omega
    have g1 : as[2 * pos + 1]? = some as[2 * pos + 1] := List.getElem?_eq_getElem hl1
    have kx := hk _ (List.getElem_mem hl1)
    have go1 : (∀ c z, as[c]? = some z → Child pos c → kle kk as[2 * pos + 1] z) → wpAny (model X.prog X.w) A (hSwap l (2 * pos + 1) pos >>= fun _ => again (hCode l true (2 * pos + 1) top res after)) (Nxt X pins σ l H P res F) E s := fun hm =>
      wpAny_bind (swap_run e hz g1 hpos (wpAny_pure (Or.inl ⟨_, _, _, _, _, rfl, swap_inv I hH e hz, h2 _ _ _ (Or.inl rfl) hl1 g1 hpos hm⟩)))
    by_cases c2 : 2 * pos + 1 + 1 < as.length
    · rw [if_pos c2]
      have g2 : as[2 * pos + 1 + 1]? = some as[2 * pos + 1 + 1] := List.getElem?_eq_getElem c2
      have ky := hk _ (List.getElem_mem c2)
      refine wpAny_bind (at_run (u := .ref as[2 * pos + 1]) (by simp) (wpAny_bind (at_run (u := .ref as[2 * pos + 1 + 1]) (by simp [c2]) ?_)))
      rw [if_neg Bool.false_ne_true]
      refine wpAny_bind (hless_run I e (by simp) kx ky hu ?_)
      cases hl : HT.lexLt (kl kk as[2 * pos + 1]) (kl kk as[2 * pos + 1 + 1]) with
      | true =>
        rw [if_neg (by decide)]
        refine go1 fun c z hc hcc => ?_
        rcases hcc with rfl | rfl
        · rw [g1] at hc
          cases hc
          exact kle_rf _ _
        · rw [show 2 * pos + 2 = 2 * pos + 1 + 1 from rfl, g2] at hc
          cases hc
          exact kle_of_lt hl
      | false =>
        rw [if_pos (by decide)]
        refine wpAny_bind (swap_run e hz g2 hpos (wpAny_pure (Or.inl ⟨_, _, _, _, _, rfl, swap_inv I hH e hz, h2 _ _ _ (Or.inr rfl) c2 g2 hpos fun c z hc hcc => ?_⟩)))
        rcases hcc with rfl | rfl
        · rw [g1] at hc
          cases hc
          exact kle_of_not hl
        · rw [show 2 * pos + 2 = 2 * pos + 1 + 1 from rfl, g2] at hc
          cases hc
          exact kle_rf _ _
    · rw [if_neg c2]
      refine go1 fun c z hc hcc => ?_
      rcases hcc with rfl | rfl
      · rw [g1] at hc
        cases hc
        exact kle_rf _ _
      · have := (List.getElem?_eq_some_iff.mp hc).1
        omega
  · rw [if_neg c1]
    refine wpAny_pure (Or.inl ⟨_, _, _, _, as, rfl, ?_, h1 (by omega)⟩)
    rw [upd_self hH]
    exact I
theorem turn_up {as : List Addr} {H : Hp} {s : Shared} {pos top : Nat} {after : Int} {res : Value} {E : Value → Shared → Prop} {P : Bool → Nat → Nat → Int → List Addr → Prop} {F : List Addr → Prop} (I : Inv X pins σ H s) (hH : H l = some (.lst (as.map V.ref))) (hk : Keys X.K H as kk) (hu : A.units < cLine) (hp : pos < as.length) (ht : top ≤ pos)
    (h1 : ∀ q x y, Child q pos → top < pos → as[q]? = some x → as[pos]? = some y → kle kk y x → P false q top after (swL as q pos x y))
    (h2 : (∀ q x y, Child q pos → top < pos → as[q]? = some x → as[pos]? = some y → kle kk x y) → after < 0 → F as)
    (h3 : (∀ q x y, Child q pos → top < pos → as[q]? = some x → as[pos]? = some y → kle kk x y) → 0 ≤ after → P true after.toNat after.toNat (after - 1) as) :
    wpAny (model X.prog X.w) A (Builtin.«_heapq.heapify.sift» ⟨[.ref l, .bool false, .bool false, rawInt (pos : Int), rawInt (top : Int), res, rawInt after], []⟩) (Nxt X pins σ l H P res F) E s := by
  obtain ⟨n, e, hz⟩ := list_at I hH
  unfold Builtin.«_heapq.heapify.sift»
  dsimp only [rawInt]
  rw [Int.toNat_natCast pos, Int.toNat_natCast top]
  refine wpAny_bind (items_run e ?_)
  rw [if_neg Bool.false_ne_true]
  have I0 : Inv X pins σ (upd H l (.lst (as.map V.ref))) s := by
    rw [upd_self hH]
    exact I
  have hpos : as[pos]? = some as[pos] := List.getElem?_eq_getElem hp
  have fin : (∀ q x y, Child q pos → top < pos → as[q]? = some x → as[pos]? = some y → kle kk x y) → wpAny (model X.prog X.w) A (if after < 0 then ret res else again (hCode l true after.toNat after.toNat res (after - 1))) (Nxt X pins σ l H P res F) E s := fun hm => by
    by_cases c2 : after < 0
    · rw [if_pos c2]
      exact wpAny_pure (Or.inr ⟨as, rfl, I0, h2 hm c2⟩)
    · rw [if_neg c2]
      exact wpAny_pure (Or.inl ⟨_, _, _, _, as, rfl, I0, h3 hm (by omega)⟩)
  by_cases c1 : pos > top
  · rw [if_pos c1]
    have hq : (pos - 1) / 2 < as.length := by omega
    have g1 : as[(pos - 1) / 2]? = some as[(pos - 1) / 2] := List.getElem?_eq_getElem hq
    refine wpAny_bind (at_run (u := .ref as[pos]) (by simp [hp]) (wpAny_bind (at_run (u := .ref as[(pos - 1) / 2]) (by simp [hq]) ?_)))
    rw [if_neg Bool.false_ne_true]
    refine wpAny_bind (hless_run I e (by simp) (hk _ (List.getElem_mem hp)) (hk _ (List.getElem_mem hq)) hu ?_)
    cases hl : HT.lexLt (kl kk as[pos]) (kl kk as[(pos - 1) / 2]) with
    | true =>
      rw [if_pos rfl]
      exact wpAny_bind (swap_run e hz g1 hpos (wpAny_pure (Or.inl ⟨_, _, _, _, _, rfl, swap_inv I hH e hz, h1 _ _ _ (Child.of (by omega)) c1 g1 hpos (kle_of_lt hl)⟩)))
    | false =>
      rw [if_neg Bool.false_ne_true]
      refine fin fun q x y hc _ hx hy => ?_
      rw [hc.par.1, g1] at hx
      rw [hpos] at hy
      cases hx
      cases hy
      exact kle_of_not hl
  · rw [if_neg c1]
    exact fin fun q x y hc h => absurd h (by omega)

/-- where the machine stands -/
def PI (kk : Ky) (dn : Bool) (p t : Nat) (k : Int) (as : List Addr) : Prop := p < as.length ∧ Sub t p ∧ k = (t : Int) - 1 ∧
  match dn with | true => Dn (kle kk) (vw 0 as) as.length t p | false => Up (kle kk) (vw 0 as) as.length t p
def mu (n : Nat) (dn : Bool) (p : Nat) (k : Int) : Nat := (k + 1).toNat * (2 * n + 3) + (match dn with | true => 2 * n + 1 - p | false => p)
/-- a heap -/
def Hq (kk : Ky) (as : List Addr) : Prop := HM.Ok (kle kk) (vw 0 as) as.length 0
theorem entry_sift : entryFor table "_heapq.heapify.sift" = some Builtin.«_heapq.heapify.sift» := entryFor_of_fast (by kernel_rfl)
theorem sift_run (hu : A.in1.units < cLine) {H0 : Hp} {as0 : List Addr} {R : Result → Shared → Prop} {res : Value} (hK : ∀ ys, Keys X.K (upd H0 l (.lst ys)) as0 kk)
    (fin : ∀ as' s', as'.Perm as0 → Hq kk as' → Inv X pins σ (upd H0 l (.lst (as'.map V.ref))) s' → R (.ok (.ret res)) s') :
    ∀ (m : Nat) (dn : Bool) (p t : Nat) (k : Int) (as : List Addr) (s : Shared), mu as.length dn p k < m → as.Perm as0 → PI kk dn p t k as → Inv X pins σ (upd H0 l (.lst (as.map V.ref))) s →
      codeAny (model X.prog X.w) A (hCode l dn p t res k) R s := by
  intro m
  induction m with
  | zero => intro dn p t k as s hm; omega
  | succ m ih =>
    intro dn p t k as s hm hp ⟨h1, h2, h3, h4⟩ I
    have hk : Keys X.K (upd H0 l (.lst (as.map V.ref))) as kk := fun a ha => hK _ a (hp.mem_iff.mp ha)
    have go : ∀ (f : PySem.Fin) (s' : Shared), Nxt X pins σ l (upd H0 l (.lst (as.map V.ref))) (fun dn p t k as' => as'.Perm as0 ∧ PI kk dn p t k as' ∧ mu as'.length dn p k < m) res (fun as' => as'.Perm as0 ∧ Hq kk as') f s' →
        match f with | .done f => R (.ok f) s' | .again c' => c'.quiet = true ∧ codeAny (model X.prog X.w) A c' R s' := fun f s' hN => by
      rcases hN with ⟨dn', p', t', k', as', rfl, I', hP⟩ | ⟨as', rfl, I', hF⟩
      · rw [upd_upd] at I'
        exact ⟨hCode_quiet _ _ _ _ _ _, ih dn' p' t' k' as' s' hP.2.2 hP.1 hP.2.1 I'⟩
      · rw [upd_upd] at I'
        exact fin as' s' hF.1 hF.2 I'
    refine codeAny_builtin entry_sift ?_
    rw [Around.under_plainId (id := "_heapq.heapify.sift") (by decide +kernel) _]
    have htp := h2.ge
    cases dn with
    | true =>
      refine wpAny_mono (turn_down (E := fun e s' => R (.error e) s') I upd_same hk hu h1 (fun hle => ?_) (fun ch x y hc hn hx hy hmin => ?_)) go (fun _ _ e => e)
      · refine ⟨hp, ⟨h1, h2, h3, down_end h4 hle⟩, ?_⟩
        unfold mu at hm ⊢
        dsimp only at hm ⊢
        omega
      · have hcp := hc.par
        refine ⟨(swL_perm hx hy).trans hp, ⟨by rw [swL_len]; exact hn, h2.step hc, h3, ?_⟩, ?_⟩
        · show Dn (kle kk) (vw 0 (swL as ch p x y)) (swL as ch p x y).length t ch
          rw [vw_sw hx hy, swL_len]
          refine down_step h4 htp hc hn fun c hcn hcc => ?_
          obtain ⟨z, hz⟩ : ∃ z, as[c]? = some z := ⟨_, List.getElem?_eq_getElem hcn⟩
          rw [vw_at hx, vw_at hz]
          exact hmin c z hz hcc
        · rw [swL_len]
          unfold mu at hm ⊢
          dsimp only at hm ⊢
          omega
    | false =>
      refine wpAny_mono (turn_up (E := fun e s' => R (.error e) s') I upd_same hk hu h1 htp (fun q x y hc ht hx hy hle => ?_) (fun hm2 hneg => ?_) (fun hm2 hpos => ?_)) go (fun _ _ e => e)
      · have hcp := hc.par
        have hs := h2.up hc ht
        refine ⟨(swL_perm hx hy).trans hp, ⟨by rw [swL_len]; omega, hs, h3, ?_⟩, ?_⟩
        · show Up (kle kk) (vw 0 (swL as q p x y)) (swL as q p x y).length t q
          rw [vw_sw hx hy, swL_len]
          exact up_step (kle_tr kk) h4 h1 hc hs.ge (by rw [vw_at hx, vw_at hy]; exact hle)
        · rw [swL_len]
          unfold mu at hm ⊢
          dsimp only at hm ⊢
          omega
      · have ht0 : t = 0 := by omega
        subst ht0
        refine ⟨hp, up_end h4 fun q hc htq => ?_⟩
        have hcp := hc.par
        have e1 : as[q]? = some as[q] := List.getElem?_eq_getElem (by omega)
        have e2 : as[p]? = some as[p] := List.getElem?_eq_getElem h1
        rw [vw_at e1, vw_at e2]
        exact hm2 q _ _ hc (by omega) e1 e2
      · have hok : HM.Ok (kle kk) (vw 0 as) as.length t := up_end h4 fun q hc htq => by
          have hcp := hc.par
          have e1 : as[q]? = some as[q] := List.getElem?_eq_getElem (by omega)
          have e2 : as[p]? = some as[p] := List.getElem?_eq_getElem h1
          rw [vw_at e1, vw_at e2]
          exact hm2 q _ _ hc (by omega) e1 e2
        have et : t = k.toNat + 1 := by omega
        rw [et] at hok
        refine ⟨hp, ⟨by omega, .base, by omega, next_dn hok⟩, ?_⟩
        unfold mu at hm ⊢
        dsimp only at hm ⊢
        have e3 : (k + 1).toNat = k.toNat + 1 := by omega
        have e4 : (k - 1 + 1).toNat = k.toNat := by omega
        rw [e3, Nat.succ_mul] at hm
        rw [e4]
        generalize k.toNat * (2 * as.length + 3) = M at hm ⊢
        omega
end
theorem kind_pop : builtinKind "_heapq.heappop" = none := by decide +kernel
theorem plain_pop : plainId "_heapq.heappop" = true := by decide +kernel
theorem entry_pop : entryFor table "_heapq.heappop" = some Builtin.«_heapq.heappop» := entryFor_of_fast (by kernel_rfl)
theorem args_pop (a : Value) : argsOk "_heapq.heappop" ⟨[a], []⟩ := by unfold argsOk; kernel_rfl
section
variable {X : Cx}
def rPop (K : PySem.W.Frag) : List V → Hp → VK → Prop := fun vs H Q => ∃ (l : Addr) (as : List Addr) (kk : Ky), vs = [.ref l] ∧ H l = some (.lst (as.map V.ref)) ∧ Keys K H as kk ∧ Hq kk as ∧ as ≠ [] ∧
  ∀ a as', as.Perm (a :: as') → (∀ b ∈ as, kle kk a b) → Hq kk as' → Q (.ref a) (upd H l (.lst (as'.map V.ref)))
theorem cr_heappop (hu : X.A.units + 2 < cLine) : CallR X (.builtin "_heapq.heappop") (rPop X.K) := by
  intro pins s σ H vs us Q I r h
  obtain ⟨l, as, kk, rfl, hH, hk, hq, hne, q⟩ := h
  obtain ⟨u, rfl, rx⟩ := vals1 r
  cases rx
  obtain ⟨n, e, hz⟩ := list_at I hH
  refine call_function_any kind_pop plain_pop entry_pop (args_pop _) ?_
  have f3 := AutoSeq1.sub_list_list
  have tl : s.TypeIs (.ref l) "list" := ⟨_, e, rfl⟩
  show wpAny _ _ (Builtin.«_heapq.heappop» ⟨[.ref l], []⟩) _ _ _
  wp_walk using wpAny_load e
  obtain ⟨init, z, rfl⟩ : ∃ init z, as = init ++ [z] := by
    rcases List.eq_nil_or_concat as with h | ⟨i, z, h⟩
    · exact absurd h hne
    · exact ⟨i, z, by simpa using h⟩
  have eb : ((init ++ [z]).map Value.ref).toArray.back? = some (.ref z) := by simp
  rw [eb]
  have hz0 : (init ++ [z]).length ≤ sizeLine := hz
  have hzi : init.length ≤ sizeLine := by
    rw [List.length_append] at hz
    omega
  have I1 : L2.Inv X pins σ (upd H l (.lst (init.map V.ref))) { s with heap := s.heap.update l (Obj.mapSeq fun x => x.pop) } :=
    I.lset (its' := init.map Value.ref) (t' := s.toks) hH e (by simp) (vals_refs _) (by rw [List.length_map]; exact hzi)
  refine wpAny_bind (wpAny_updateSeq e rfl ?_ (by rw [List.size_toArray, List.length_map]; exact hz0) (by simp; omega))
  cases init with
  | nil =>
    rw [if_pos (by simp)]
    refine wpAny_pure ⟨.ref z, _, I1, rfl, q z [] (List.Perm.refl _) (fun b hb => ?_) ?_⟩
    · have : b = z := by simpa using hb
      rw [this]
      exact kle_rf _ _
    · intro p c hc
      exact absurd hc (Nat.not_lt_zero _)
  | cons x m =>
    rw [if_neg (by simp)]
    have g0 : ((x :: m ++ [z]).map Value.ref).toArray[0]? = some (.ref x) := by simp
    refine wpAny_bind (at_run (X := X) (ys := ((x :: m ++ [z]).map Value.ref).toArray) (k := 0) g0 ?_)
    obtain ⟨n1, e1, hz1⟩ := list_at I1 upd_same
    have I2 : L2.Inv X pins σ (upd H l (.lst ((z :: m).map V.ref))) { s with heap := (s.heap.update l (Obj.mapSeq fun x => x.pop)).update l (Obj.mapSeq fun x => x.setIfInBounds 0 (.ref z)) } := by
      have I2 := I1.lset (its' := (z :: m).map Value.ref) (ys := (z :: m).map V.ref) (f := fun x => x.setIfInBounds 0 (.ref z)) (t' := s.toks) upd_same e1 (by simp) (vals_refs _) (by simpa using hz1)
      rw [upd_upd] at I2
      exact I2
    refine wpAny_bind (wpAny_updateSeq e1 rfl ?_ (by rw [List.size_toArray, List.length_map]; exact hz1) (by have h9 := hz1; simp at h9 ⊢; omega))
    refine wpAny_pure (a := PySem.Fin.again (hCode l true 0 0 (.ref x) (-1))) ⟨hCode_quiet _ _ _ _ _ _, ?_⟩
    have hperm : (x :: m ++ [z]).Perm (x :: (z :: m)) := List.Perm.cons _ (List.perm_append_comm (l₁ := m) (l₂ := [z]))
    refine sift_run (A := X.A) (by show X.A.units + 1 < _; omega) (H0 := H) (as0 := z :: m) (kk := kk) (fun ys a ha => keys_upd hH hk ys a (hperm.mem_iff.mpr (List.mem_cons_of_mem _ ha))) (fun as' s' hp' hq' I' => ?_) _ true 0 0 (-1) (z :: m) _ (Nat.lt_succ_self _) (List.Perm.refl _) ⟨by simp, .base, rfl, ?_⟩ I2
    · refine ⟨.ref x, _, I', rfl, q x as' (hperm.trans (List.Perm.cons _ hp'.symm)) (fun b hb => ?_) hq'⟩
      obtain ⟨i, hi, ei⟩ := List.mem_iff_getElem.mp hb
      have h1 := root_least (kle_rf kk) (kle_tr kk) hq i hi
      rw [vw_at (x := x) (by simp), vw_at (x := b) (by rw [List.getElem?_eq_getElem hi, ei])] at h1
      exact h1
    · show Dn (kle kk) (vw 0 (z :: m)) (z :: m).length 0 0
      have hq2 : HM.Ok (kle kk) (vw 0 (x :: m ++ [z])) (m.length + 1 + 1) 0 := by
        have : (x :: m ++ [z]).length = m.length + 1 + 1 := by simp
        unfold Hq at hq
        rw [this] at hq
        exact hq
      refine pop_dn hq2 fun i h0 hi => ?_
      obtain ⟨j, rfl⟩ : ∃ j, i = j + 1 := ⟨i - 1, by omega⟩
      have hj : j < m.length := by
        rw [List.length_cons] at hi
        omega
      rw [vw_at (x := m[j]) (by rw [List.getElem?_cons_succ, List.getElem?_eq_getElem hj]), vw_at (x := m[j]) (by rw [List.cons_append, List.getElem?_cons_succ, List.getElem?_append_left hj, List.getElem?_eq_getElem hj])]

theorem kind_push : builtinKind "_heapq.heappush" = none := by decide +kernel
theorem plain_push : plainId "_heapq.heappush" = true := by decide +kernel
theorem entry_push : entryFor table "_heapq.heappush" = some Builtin.«_heapq.heappush» := entryFor_of_fast (by kernel_rfl)
theorem args_push (a b : Value) : argsOk "_heapq.heappush" ⟨[a, b], []⟩ := by unfold argsOk; kernel_rfl
def rPush (K : PySem.W.Frag) : List V → Hp → VK → Prop := fun vs H Q => ∃ (l x : Addr) (as : List Addr) (kk : Ky), vs = [.ref l, .ref x] ∧ H l = some (.lst (as.map V.ref)) ∧ Keys K H (x :: as) kk ∧ Hq kk as ∧ as.length < sizeLine ∧
  ∀ as', as'.Perm (x :: as) → Hq kk as' → Q .non (upd H l (.lst (as'.map V.ref)))
theorem cr_heappush (hu : X.A.units + 2 < cLine) : CallR X (.builtin "_heapq.heappush") (rPush X.K) := by
  intro pins s σ H vs us Q I r h
  obtain ⟨l, x, as, kk, rfl, hH, hk, hq, hlt, q⟩ := h
  obtain ⟨u, u2, rfl, rx, ry⟩ := vals2 r
  cases rx
  cases ry
  obtain ⟨n, e, hz⟩ := list_at I hH
  refine call_function_any kind_push plain_push entry_push (args_push _ _) ?_
  have f3 := AutoSeq1.sub_list_list
  have tl : s.TypeIs (.ref l) "list" := ⟨_, e, rfl⟩
  show wpAny _ _ (Builtin.«_heapq.heappush» ⟨[.ref l, .ref x], []⟩) _ _ _
  have I1 : L2.Inv X pins σ (upd H l (.lst ((as ++ [x]).map V.ref))) { s with heap := s.heap.update l (Obj.mapSeq fun ys => ys.push (.ref x)) } :=
    I.lset (its' := (as ++ [x]).map Value.ref) (t' := s.toks) hH e (by simp) (vals_refs _) (by rw [List.length_map, List.length_append]; exact hlt)
  obtain ⟨n1, e1, hz1⟩ := list_at I1 upd_same
  have hs1 : (as.map Value.ref).toArray.size ≤ sizeLine := by simpa using hz
  have hs2 : ((as.map Value.ref).toArray.push (.ref x)).size ≤ sizeLine + 1 := by simp; omega
  wp_walk using wpAny_load e, wpAny_load e1, (wpAny_updateSeq e rfl (hz := hs1) (_hz' := hs2))
  show (hCode l false ((List.map Value.ref (as ++ [x])).toArray.size - 1) 0 .none (-1)).quiet = true ∧ codeAny (model X.prog X.w) X.A (hCode l false ((List.map Value.ref (as ++ [x])).toArray.size - 1) 0 .none (-1)) _ _
  have es : (List.map Value.ref (as ++ [x])).toArray.size - 1 = as.length := by simp
  rw [es]
  have hperm : (as ++ [x]).Perm (x :: as) := List.perm_append_comm (l₁ := as) (l₂ := [x])
  have sub0 : ∀ c, Sub 0 c := fun c => by
    induction c using Nat.strongRecOn with
    | _ c ih =>
      by_cases h0 : c = 0
      · rw [h0]
        exact .base
      · have hc := Child.of (c := c) (by omega)
        exact .step (ih _ hc.par.2) hc
  refine ⟨hCode_quiet _ _ _ _ _ _, sift_run (A := X.A) (by show X.A.units + 1 < _; omega) (H0 := H) (as0 := as ++ [x]) (kk := kk) (fun ys a ha => keys_upd hH hk ys a (hperm.mem_iff.mp ha)) (fun as' s' hp' hq' I' => ?_) _ false as.length 0 (-1) (as ++ [x]) _ (Nat.lt_succ_self _) (List.Perm.refl _) ⟨by simp, sub0 _, rfl, ?_⟩ I1⟩
  · exact ⟨.non, _, I', rfl, q as' (hp'.trans hperm) hq'⟩
  · show Up (kle kk) (vw 0 (as ++ [x])) (as ++ [x]).length 0 as.length
    rw [List.length_append]
    refine push_up hq fun i hi => ?_
    rw [vw_at (x := as[i]) (by rw [List.getElem?_append_left hi, List.getElem?_eq_getElem hi]), vw_at (x := as[i]) (by rw [List.getElem?_eq_getElem hi])]
theorem kind_ify : builtinKind "_heapq.heapify" = none := by decide +kernel
theorem plain_ify : plainId "_heapq.heapify" = true := by decide +kernel
theorem entry_ify : entryFor table "_heapq.heapify" = some Builtin.«_heapq.heapify» := entryFor_of_fast (by kernel_rfl)
theorem args_ify (a : Value) : argsOk "_heapq.heapify" ⟨[a], []⟩ := by unfold argsOk; kernel_rfl
def rIfy (K : PySem.W.Frag) : List V → Hp → VK → Prop := fun vs H Q => ∃ (l : Addr) (as : List Addr) (kk : Ky), vs = [.ref l] ∧ H l = some (.lst (as.map V.ref)) ∧ Keys K H as kk ∧ as.length ≤ 2500 ∧
  ∀ as', as'.Perm as → Hq kk as' → Q .non (upd H l (.lst (as'.map V.ref)))
theorem cr_heapify (hu : X.A.units + 2 < cLine) : CallR X (.builtin "_heapq.heapify") (rIfy X.K) := by
  intro pins s σ H vs us Q I r h
  obtain ⟨l, as, kk, rfl, hH, hk, hlt, q⟩ := h
  obtain ⟨u, rfl, rx⟩ := vals1 r
  cases rx
  obtain ⟨n, e, hz⟩ := list_at I hH
  refine call_function_any kind_ify plain_ify entry_ify (args_ify _) ?_
  have f3 := AutoSeq1.sub_list_list
  have tl : s.TypeIs (.ref l) "list" := ⟨_, e, rfl⟩
  show wpAny _ _ (Builtin.«_heapq.heapify» ⟨[.ref l], []⟩) _ _ _
  have h25 : ¬ (as.map Value.ref).toArray.size > 2500 := by simp; omega
  wp_walk using wpAny_load e
  have es : (as.map Value.ref).toArray.size = as.length := by simp
  rw [es]
  by_cases h2 : as.length < 2
  · rw [if_pos h2]
    refine wpAny_pure ⟨.non, _, I, rfl, ?_⟩
    have := q as (List.Perm.refl _) (fun p c hc hpc => by have := hpc.par; omega)
    rw [upd_self hH] at this
    exact this
  · rw [if_neg h2]
    refine wpAny_pure (a := PySem.Fin.again (hCode l true (as.length / 2 - 1) (as.length / 2 - 1) .none (((as.length / 2 : Nat) : Int) - 2))) ⟨hCode_quiet _ _ _ _ _ _, ?_⟩
    have I0 : L2.Inv X pins σ (upd H l (.lst (as.map V.ref))) s := by
      rw [upd_self hH]
      exact I
    refine sift_run (A := X.A) (by show X.A.units + 1 < _; omega) (H0 := H) (as0 := as) (kk := kk) (fun ys a ha => keys_upd hH hk ys a ha) (fun as' s' hp' hq' I' => ⟨.non, _, I', rfl, q as' hp' hq'⟩) _ true _ _ _ as _ (Nat.lt_succ_self _) (List.Perm.refl _) ⟨by omega, .base, by omega, start_dn (by omega)⟩ I0
end

theorem hu2 {A : Around} {k : Nat} (hr : Room k A) : A.units + 2 < cLine := by
  have := hr.un
  omega
theorem hq_congr {kk kk' : Ky} {as : List Addr} (h : Hq kk as) (e : ∀ a ∈ as, kk' a = kk a) : Hq kk' as := by
  intro p c hc hpc ht
  have hp := hpc.par
  have h0 := h p c hc hpc ht
  have e1 : as[p]? = some as[p] := List.getElem?_eq_getElem (by omega)
  have e2 : as[c]? = some as[c] := List.getElem?_eq_getElem hc
  rw [vw_at e1, vw_at e2] at h0 ⊢
  unfold kle at h0 ⊢
  rw [e _ (List.getElem_mem _), e _ (List.getElem_mem _)]
  exact h0
theorem keys_congr {K : PySem.W.Frag} {H : Hp} {kk kk' : Ky} {as : List Addr} (h : Keys K H as kk) (e : ∀ a ∈ as, kk' a = kk a) : Keys K H as kk' := fun a ha => by
  unfold kl
  rw [e a ha]
  exact h a ha
end HQ

set_option maxHeartbeats 4000000
/-! pairing over a list kept in order: the mathematics -/
namespace HF
/-- a node: its weight, its number -/
abbrev Nd := Int × Int
def nle (a b : Nd) : Prop := a.1 < b.1 ∨ (a.1 = b.1 ∧ a.2 ≤ b.2)
instance (a b : Nd) : Decidable (nle a b) := inferInstanceAs (Decidable (a.1 < b.1 ∨ (a.1 = b.1 ∧ a.2 ≤ b.2)))
theorem nle_tr {a b c : Nd} (h : nle a b) (h' : nle b c) : nle a c := by
  unfold nle at *
  omega
theorem nle_tot (a b : Nd) : nle a b ∨ nle b a := by
  unfold nle
  omega
theorem nle_anti {a b : Nd} (h : nle a b) (h' : nle b a) : a = b := by
  unfold nle at *
  exact Prod.ext (by omega) (by omega)
def ins (x : Nd) : List Nd → List Nd
  | [] => [x]
  | y :: r => if nle x y then x :: y :: r else y :: ins x r
def srt : List Nd → List Nd
  | [] => []
  | x :: r => ins x (srt r)
def Sorted : List Nd → Prop
  | [] => True
  | x :: r => (∀ y ∈ r, nle x y) ∧ Sorted r
theorem ins_perm (x : Nd) : ∀ l, (ins x l).Perm (x :: l)
  | [] => List.Perm.refl _
  | y :: r => by
    unfold ins
    split
    · exact List.Perm.refl _
    · exact (List.Perm.cons y (ins_perm x r)).trans (List.Perm.swap x y r)
theorem ins_len (x : Nd) (l : List Nd) : (ins x l).length = l.length + 1 := (ins_perm x l).length_eq
theorem ins_sorted (x : Nd) : ∀ {l}, Sorted l → Sorted (ins x l)
  | [], _ => ⟨fun y hy => (nomatch hy), True.intro⟩
  | y :: r, ⟨h1, h2⟩ => by
    unfold ins
    split
    · rename_i h
      exact ⟨fun z hz => by
        rcases List.mem_cons.mp hz with rfl | hz
        · exact h
        · exact nle_tr h (h1 z hz), h1, h2⟩
    · rename_i h
      refine ⟨fun z hz => ?_, ins_sorted x h2⟩
      rcases List.mem_cons.mp ((ins_perm x r).mem_iff.mp hz) with rfl | hz
      · exact (nle_tot z y).resolve_left h
      · exact h1 z hz
theorem srt_perm : ∀ l, (srt l).Perm l
  | [] => List.Perm.refl _
  | x :: r => (ins_perm x (srt r)).trans (List.Perm.cons x (srt_perm r))
theorem srt_sorted : ∀ l, Sorted (srt l)
  | [] => True.intro
  | x :: r => ins_sorted x (srt_sorted r)
theorem srt_len (l : List Nd) : (srt l).length = l.length := (srt_perm l).length_eq
/-- the least of a heap is the first in order -/
theorem least_is {a : Nd} {l fr : List Nd} (hp : (a :: l).Perm fr) (hm : ∀ b ∈ a :: l, nle a b) (hs : Sorted fr) : ∃ r, fr = a :: r ∧ l.Perm r ∧ Sorted r := by
  cases fr with
  | nil => exact absurd hp.length_eq (by simp)
  | cons b r =>
    obtain ⟨h1, h2⟩ := hs
    have e : a = b := by
      refine nle_anti (hm b (hp.mem_iff.mpr List.mem_cons_self)) ?_
      rcases List.mem_cons.mp (hp.mem_iff.mp List.mem_cons_self) with e | h
      · rw [e]
        rcases nle_tot b b with h | h <;> exact h
      · exact h1 a h
    subst e
    exact ⟨r, rfl, hp.cons_inv, h2⟩
/-- the pairs, in the order in which they are made; k: the next number -/
def huff : Nat → List Nd → Int → List (Int × Int)
  | f + 1, a :: b :: r, k => (a.2, b.2) :: huff f (ins (a.1 + b.1, k) r) (k + 1)
  | _, _, _ => []
theorem huff_two (a b : Nd) (r : List Nd) (k : Int) : huff (a :: b :: r).length (a :: b :: r) k = (a.2, b.2) :: huff (ins (a.1 + b.1, k) r).length (ins (a.1 + b.1, k) r) (k + 1) := by
  rw [ins_len]
  rfl
theorem huff_end {fr : List Nd} (h : fr.length ≤ 1) (k : Int) (f : Nat) : huff f fr k = [] := by
  cases f with
  | zero => rfl
  | succ f =>
    match fr, h with
    | [], _ => rfl
    | [_], _ => rfl
    | _ :: _ :: _, h => simp at h
def nodes (ns : List Int) : List Nd := ns.zipIdx.map fun p => (p.1, (p.2 : Int))
def made (ns : List Int) : List (Int × Int) := huff ns.length (srt (nodes ns)) ns.length
theorem nodes_len (ns : List Int) : (nodes ns).length = ns.length := by simp [nodes]
theorem made_eq (ns : List Int) : made ns = huff (srt (nodes ns)).length (srt (nodes ns)) ns.length := by
  rw [srt_len, nodes_len]
  rfl
theorem nodes_at {ns : List Int} {i : Nat} {x : Int} (h : ns[i]? = some x) : (nodes ns)[i]? = some (x, (i : Int)) := by
  unfold nodes
  rw [List.getElem?_map, List.getElem?_zipIdx, h]
  simp
theorem huff_len : ∀ (m : Nat) (fr : List Nd) (k : Int), fr.length = m → (huff fr.length fr k).length = fr.length - 1
  | 0, fr, k, h => by rw [huff_end (by omega)]; simp; omega
  | 1, fr, k, h => by rw [huff_end (by omega)]; simp; omega
  | m + 2, fr, k, h => by
    match fr, h with
    | a :: b :: r, h =>
      rw [huff_two, List.length_cons, huff_len (m + 1) _ _ (by rw [ins_len]; simpa using h), ins_len]
      simp
theorem made_len (ns : List Int) : (made ns).length = ns.length - 1 := by
  rw [made_eq, huff_len _ _ _ rfl, srt_len, nodes_len]
end HF

set_option maxHeartbeats 4000000
namespace SP
open PySem L2 Evl
/-- pairs of ints that stand at the addresses -/
def Rws (H : Hp) (ts : List Addr) (rows : List (Int × Int)) : Prop := ts.length = rows.length ∧ ∀ (i : Nat) t r, ts[i]? = some t → rows[i]? = some r → H t = some (.tup [.int r.1, .int r.2])
theorem Rws.ex {H H' : Hp} {ts : List Addr} {rows : List (Int × Int)} (h : Rws H ts rows) (e : Ex H H') : Rws H' ts rows := ⟨h.1, fun i t r h1 h2 => e _ _ (h.2 i t r h1 h2)⟩
theorem Rws.nil {H : Hp} : Rws H [] [] := ⟨rfl, fun i t r h => by simp at h⟩
theorem Rws.snoc {H : Hp} {ts : List Addr} {rows : List (Int × Int)} {t : Addr} {r : Int × Int} (h : Rws H ts rows) (ht : H t = some (.tup [.int r.1, .int r.2])) : Rws H (ts ++ [t]) (rows ++ [r]) := by
  refine ⟨by rw [List.length_append, List.length_append, h.1]; rfl, fun i u q h1 h2 => ?_⟩
  by_cases hi : i < ts.length
  · rw [List.getElem?_append_left hi] at h1
    rw [List.getElem?_append_left (by rw [← h.1]; exact hi)] at h2
    exact h.2 i u q h1 h2
  · rw [List.getElem?_append_right (by omega)] at h1
    rw [List.getElem?_append_right (by rw [← h.1]; omega), ← h.1] at h2
    have hz : i - ts.length = 0 := by
      have := (List.getElem?_eq_some_iff.mp h1).1
      simp at this
      omega
    rw [hz] at h1 h2
    cases h1
    cases h2
    exact ht
/-- a list is changed: the tuples stand -/
theorem Rws.upd {H : Hp} {ts : List Addr} {rows : List (Int × Int)} {l : Addr} {xs ys : List V} (h : Rws H ts rows) (hl : H l = some (.lst xs)) : Rws (upd H l (.lst ys)) ts rows :=
  ⟨h.1, fun i t r h1 h2 => by rw [upd_ne (ne_of (h.2 i t r h1 h2) hl fun z => nomatch z)]; exact h.2 i t r h1 h2⟩
/-- a new list of pairs -/
def RetR (rows : List (Int × Int)) (H : Hp) (Q : VK) : Prop := ∀ (p : Addr) (ts : List Addr) H2, H p = none → Ex H H2 → H2 p = some (.lst (ts.map V.ref)) → Rws H2 ts rows → Q (.ref p) H2
section
variable {K : PySem.W.Frag} {σ : L2.St} {H H' : Hp} {ta tb te tx : TE} {t u : TT} {x y z v : V} {D : Ends} {tz : TS}
/-- name = [(.., ..) for number, item in enumerate(list)]: a new list of new tuples -/
theorem q_enumTups {ta : TA} {a : Addr} {xs : List V} {i j slot : Nat} {vs : List Nat} (f : Nat → List V) (h : EvA ta σ H [.ref a]) (hx : SqL K H a xs) (hz : xs.length ≤ 40000) (hw : ∀ x y, wipe (((wipe σ vs).set i (some x)).set j (some y)) vs = wipe σ vs)
    (he : ∀ (k : Nat) (x : V) H1, Ex H H1 → xs[k]? = some x → EvU te (((wipe σ vs).set i (some (.int (k : Int)))).set j (some x)) H1 (f k))
    (kk : ∀ (p : Addr) (ts : List Addr) H1, H p = none → Ex H H1 → H1 p = some (.lst (ts.map V.ref)) → ts.length = xs.length → (∀ (k : Nat) t, ts[k]? = some t → H1 t = some (.tup (f k))) → tz D (σ.set slot (some (.ref p))) H1) :
    tSeq (tAsg (tLc (iEnum K ta) (gTup K 2 (gCons (gName i) (gCons (gName j) gNil))) tYes te vs) (gName slot)) tz D σ H :=
  h H (Ex.refl H) _ fun H1 e1 => ⟨a, xs, rfl, ex_l e1 hx, fun Dl hD =>
    lc_it walk_enum (fun n H' => H1 Dl = none ∧ Ex H1 H' ∧ ∃ ts : List Addr, ts.length = n ∧ H' Dl = some (.lst (ts.map V.ref)) ∧ ∀ (k : Nat) t, ts[k]? = some t → H' t = some (.tup (f k)))
      ⟨hD, Ex.new hD, [], rfl, upd_same, fun k t hk => by simp at hk⟩ (fun k H' _ p => ex_l (e1.trans p.2.1) hx) (fun k v H' H2 hk p yy => by
        obtain ⟨T, x, z, rfl, hT, rfl, g1, g2⟩ := yy
        obtain ⟨p1, p2, ts, p3, p4, p5⟩ := p
        cases g1
        refine ⟨T, [_, z], rfl, st_of upd_same, rfl, _, [z], rfl, z, [], rfl, rfl, hw _ z, ?_⟩
        show te _ _ _
        have eT := Ex.new (o := .tup [.int (k : Int), z]) hT
        refine he k z H1 e1 g2 _ (p2.trans eT) _ fun q H3 hq e3 h3 => ?_
        have h4 := e3 _ _ (eT _ _ p4)
        refine ⟨ts.map V.ref, h4, sz_lt (by rw [List.length_map]; omega), p1, Ex.mut ((p2.trans eT).trans e3) p1, ts ++ [q], by rw [List.length_append, p3]; rfl, ?_, fun k2 t hk2 => ?_⟩
        · rw [upd_same, List.map_append]
          rfl
        · have aux : ∀ {t o}, H3 t = some (.tup o) → upd H3 Dl (.lst (ts.map V.ref ++ [V.ref q])) t = some (.tup o) := fun {t o} ht => by
            rw [upd_ne (ne_of ht h4 fun z => nomatch z)]
            exact ht
          by_cases hlt : k2 < ts.length
          · rw [List.getElem?_append_left hlt] at hk2
            exact aux (e3 _ _ (eT _ _ (p5 k2 t hk2)))
          · rw [List.getElem?_append_right (by omega)] at hk2
            have hz0 : k2 - ts.length = 0 := by
              have := (List.getElem?_eq_some_iff.mp hk2).1
              simp at this
              omega
            rw [hz0] at hk2
            cases hk2
            have : k2 = k := by omega
            rw [this]
            exact aux h3) (fun H' p => by
        obtain ⟨p1, p2, ts, p3, p4, p5⟩ := p
        exact kk Dl ts H' (fresh_back e1 p1) (e1.trans p2) p4 p3 p5)⟩
end
open HQ in
/-- tuples of two ints stand at the addresses -/
def KeysT (H : Hp) (as : List Addr) (kk : Ky) : Prop := ∀ a ∈ as, H a = some (.tup [.int (kk a).1, .int (kk a).2])
section
open HQ
variable {K : PySem.W.Frag} {σ : L2.St} {H H' : Hp} {te : TE} {D : Ends} {tz : TS} {l : Addr} {as as' : List Addr} {kk : Ky}
theorem KeysT.k (h : KeysT H as kk) : Keys K H as kk := fun a ha => st_of (h a ha)
theorem KeysT.ex (h : KeysT H as kk) (e : Ex H H') : KeysT H' as kk := fun a ha => e _ _ (h a ha)
theorem KeysT.upd {xs ys : List V} (h : KeysT H as kk) (hl : H l = some (.lst xs)) : KeysT (upd H l (.lst ys)) as kk := fun a ha => by
  rw [upd_ne (ne_of (h a ha) hl fun z => nomatch z)]
  exact h a ha
theorem KeysT.sub (h : KeysT H as kk) (hs : ∀ a ∈ as', a ∈ as) : KeysT H as' kk := fun a ha => h a (hs a ha)
theorem q_pop {n i j : Nat} (ha : σ[n]? = some (some (.ref l))) (hl : H l = some (.lst (as.map V.ref))) (hk : KeysT H as kk) (hq : Hq kk as) (hne : as ≠ [])
    (k : ∀ a as', as.Perm (a :: as') → (∀ b ∈ as, kle kk a b) → Hq kk as' → KeysT (L2.upd H l (.lst (as'.map V.ref))) as' kk → tz D ((σ.set i (some (.int (kk a).1))).set j (some (.int (kk a).2))) (L2.upd H l (.lst (as'.map V.ref)))) :
    tSeq (tAsg (tCB (rPop K) (tCons (tVar n) tNil)) (gTup K 2 (gCons (gName i) (gCons (gName j) gNil)))) tz D σ H :=
  ⟨.ref l, ha, l, as, kk, rfl, hl, hk.k, hq, hne, fun a as' hp hm hq' =>
    ⟨a, [.int (kk a).1, .int (kk a).2], rfl, st_of (hk.upd hl a (hp.mem_iff.mpr List.mem_cons_self)), rfl, _, [_], rfl, _, [], rfl, rfl,
      k a as' hp hm hq' ((hk.upd hl).sub fun b hb => hp.mem_iff.mpr (List.mem_cons_of_mem _ hb))⟩⟩
/-- a new pair's key beside the others -/
def kkx (kk : Ky) (x : Addr) (w : Int × Int) : Ky := fun a => if a = x then w else kk a
theorem kkx_x {kk : Ky} {x : Addr} {w : Int × Int} : kkx kk x w x = w := if_pos rfl
theorem kkx_o {kk : Ky} {x a : Addr} {w : Int × Int} (h : a ≠ x) : kkx kk x w a = kk a := if_neg h
theorem q_push {n : Nat} {w k : Int} (ha : σ[n]? = some (some (.ref l))) (hl : H l = some (.lst (as.map V.ref))) (he : EvU te σ H [.int w, .int k]) (hk : KeysT H as kk) (hq : Hq kk as) (hlt : as.length < 100000)
    (c : ∀ x H1 as', H x = none → Ex H H1 → as'.Perm (x :: as) → (∀ a ∈ as, kkx kk x (w, k) a = kk a) → Hq (kkx kk x (w, k)) as' → KeysT (L2.upd H1 l (.lst (as'.map V.ref))) as' (kkx kk x (w, k)) → tz D σ (L2.upd H1 l (.lst (as'.map V.ref)))) :
    tSeq (tDrop (tCB (rPush K) (tCons (tVar n) (tCons te tNil)))) tz D σ H :=
  ⟨.ref l, ha, he H (Ex.refl H) _ fun x H1 hx e1 h1 => by
    have hne : ∀ a ∈ as, kkx kk x (w, k) a = kk a := fun a hm => kkx_o (ne_of_none (hk a hm) hx)
    have hk2 : KeysT H1 (x :: as) (kkx kk x (w, k)) := fun a hm => by
      rcases List.mem_cons.mp hm with e | hm
      · rw [e, kkx_x]
        exact h1
      · rw [hne a hm]
        exact e1 _ _ (hk a hm)
    exact ⟨l, x, as, kkx kk x (w, k), rfl, e1 _ _ hl, hk2.k, hq_congr hq hne, sz_lt hlt, fun as' hp hq' => c x H1 as' hx e1 hp hne hq' ((hk2.upd (e1 _ _ hl)).sub fun a hm => hp.mem_iff.mp hm)⟩⟩
end
end SP

set_option maxHeartbeats 4000000
namespace SP
open PySem L2 Evl
/-- a text by its signs -/
def tx (l : List Nat) : Str := ⟨l.toArray⟩
theorem tx_cps (l : List Nat) : (tx l).cps.toList = l := by simp [tx]
theorem tx_len (l : List Nat) : (tx l).length = l.length := by simp [tx, Str.length]
theorem tx_app (a b : List Nat) : tx a ++ tx b = tx (a ++ b) := by
  show (⟨a.toArray ++ b.toArray⟩ : Str) = ⟨(a ++ b).toArray⟩
  simp
theorem tx_inj {a b : List Nat} (h : tx a = tx b) : a = b := by
  have := congrArg (fun z : Str => z.cps.toList) h
  simpa [tx] using this
theorem tx_one (c : Nat) : (⟨#[c]⟩ : Str) = tx [c] := rfl
theorem occ_count (x : Str) (c : Nat) : ∀ (k i : Nat) (st : Array Nat × Nat), i + k = x.cps.toList.length + 1 → st.fst.size ≤ i → st.snd ≤ i →
    (forIn (List.range' i k) st (StrLaws.occBody x ⟨#[c]⟩ x.length (x.length + 1))).run.fst.size = st.fst.size + (x.cps.toList.drop i).count c
  | 0, i, st, h, _, _ => by
    rw [List.drop_of_length_le (by omega)]
    rfl
  | k + 1, i, st, h, h1, h2 => by
    have hl : x.length = x.cps.toList.length := by simp [Str.length]
    rw [List.range'_succ, List.forIn_cons]
    unfold StrLaws.occBody
    have key := StrLaws.subAt_one x c i
    by_cases hc : x.cps.toList[i]? = some c
    · obtain ⟨k1, k2⟩ := key.mpr hc
      have hi : i < x.cps.toList.length := (List.getElem?_eq_some_iff.mp hc).1
      rw [if_pos ⟨⟨⟨by rw [hl]; omega, h2⟩, k1⟩, k2⟩]
      have ih := occ_count x c k (i + 1) (st.fst.push i, i + (⟨#[c]⟩ : Str).length) (by omega) (by simp; omega) (by show i + 1 ≤ i + 1; omega)
      refine Eq.trans ih ?_
      have e : x.cps.toList.drop i = c :: x.cps.toList.drop (i + 1) := by
        rw [List.drop_eq_getElem_cons hi]
        congr 1
        exact (List.getElem?_eq_some_iff.mp hc).2
      rw [e, List.count_cons]
      simp
      omega
    · rw [if_neg (fun z => hc (key.mp ⟨z.1.2, z.2⟩))]
      have ih := occ_count x c k (i + 1) st (by omega) (by omega) (by omega)
      refine Eq.trans ih ?_
      congr 1
      by_cases hi : i < x.cps.toList.length
      · rw [List.drop_eq_getElem_cons hi, List.count_cons, if_neg (fun z => hc (by rw [List.getElem?_eq_getElem hi, eq_of_beq z]))]
        rfl
      · rw [List.drop_of_length_le (by omega), List.drop_of_length_le (by omega)]
theorem count_one (l : List Nat) (c : Nat) : Txt.count (tx l) (tx [c]) = ((l.count c : Nat) : Int) := by
  show (((Builtin.Str.occurrences (tx l) ⟨#[c]⟩ 0 (tx l).length ((tx l).length + 1)).length : Nat) : Int) = _
  rw [StrLaws.occ_eq, Array.length_toList]
  have h := occ_count (tx l) c ((tx l).length + 1) 0 (#[], 0) (by rw [tx_cps, tx_len]; omega) (Nat.le_refl _) (Nat.le_refl _)
  rw [tx_cps, List.drop_zero] at h
  exact congrArg (fun n : Nat => (n : Int)) (h.trans (by simp))
theorem join_ones : ∀ l : List Nat, Txt.join (tx []) (l.map fun c => tx [c]) = tx l := fun l => by
  show Builtin.Str.glued _ _ = _
  rw [StrLaws.glued_eq_join]
  induction l with
  | nil => rfl
  | cons a r ih =>
    cases r with
    | nil => rfl
    | cons b r =>
      show tx [a] ++ tx [] ++ Str.join (tx []) ((b :: r).map fun c => tx [c]) = tx (a :: b :: r)
      rw [ih, tx_app, tx_app]
      rfl
section
variable {K : PySem.W.Frag} {σ : L2.St} {H H' : Hp} {ta tb te tx' : TE} {t u : TT} {x y z v : V}
/-- a method of a text -/
theorem ev_bmS {r : V → List V → Hp → VK → Prop} {s : Str} {ta : TA} {vs : List V} (ho : Ev te σ H (.str s)) (ha : EvA ta σ H vs) (hr : ∀ H1, Ex H H1 → ∀ Q : VK, (∀ H2, Ex H1 H2 → Q z H2) → r (.str s) vs H1 Q) : Ev (tBM K "str" r te ta) σ H z := fun H1 e Q q =>
  ho H1 e _ fun H2 e2 => ⟨rfl, ha H2 (e.trans e2) _ fun H3 e3 => hr H3 ((e.trans e2).trans e3) Q fun H4 e4 => q H4 ((e2.trans e3).trans e4)⟩
/-- sep.join(a new list of texts) -/
theorem ev_joinN {sep : Str} {ys : List Str} (ho : Ev te σ H (.str sep)) (hl : EvL tb σ H (ys.map V.str)) (hz : (ys.map (·.length)).sum + ys.length * sep.length ≤ 16777216) :
    Ev (tBM K "str" (fun x xs H Q => ∃ a p, ∃ ys : List Str, x = .str a ∧ xs = [.ref p] ∧ (SqL K H p (ys.map V.str) ∨ SqT K H p (ys.map V.str)) ∧ (ys.map (·.length)).sum + ys.length * a.length ≤ 16777216 ∧ Q (.str (Txt.join a ys)) H) te (tCons tb tNil)) σ H (.str (Txt.join sep ys)) := fun H1 e Q q =>
  ho H1 e _ fun H2 e2 => ⟨rfl, hl H2 (e.trans e2) _ fun p H3 _ e3 h3 => ⟨sep, p, ys, rfl, rfl, .inl (sq_of h3), hz, q H3 (e2.trans e3)⟩⟩
/-- a for over a text, the target a name -/
theorem q_forS {tz : TS} {D : Ends} {tu : TS} {j : Nat} {l : List Nat} (h : Ev te σ H (.str (tx l))) (Pv : Nat → L2.St → Hp → Prop) (h0 : ∀ H1, Ex H H1 → Pv 0 σ H1)
    (hs : ∀ (n : Nat) (c : Nat) (σ' : L2.St) (H' : Hp), l[n]? = some c → Pv n σ' H' → tu { D with nx := Pv (n + 1), ct := Pv (n + 1), bk := tz D } (σ'.set j (some (.str (tx [c])))) H') (hd : ∀ σ' H', Pv l.length σ' H' → tz D σ' H') :
    tSeq (tFor (iStr te) (gName j) tu) tz D σ H :=
  h H (Ex.refl H) _ fun H1 e => ⟨tx l, rfl, for_it walk_str Pv (h0 H1 e) (fun _ _ _ _ _ => True.intro) (fun n v σ' H' H2 hn p y => by
    obtain ⟨rfl, c, hc, rfl⟩ := y
    refine hs n c σ' H2 ?_ p
    rw [← hc]
    simp [tx]) (by
    have e : (tx l).cps.size = l.length := by simp [tx]
    rw [e]
    exact hd)⟩
theorem s_forS {D : Ends} {tu : TS} {j : Nat} {l : List Nat} (h : Ev te σ H (.str (tx l))) (Pv : Nat → L2.St → Hp → Prop) (h0 : ∀ H1, Ex H H1 → Pv 0 σ H1)
    (hs : ∀ (n : Nat) (c : Nat) (σ' : L2.St) (H' : Hp), l[n]? = some c → Pv n σ' H' → tu { D with nx := Pv (n + 1), ct := Pv (n + 1), bk := D.nx } (σ'.set j (some (.str (tx [c])))) H') (hd : ∀ σ' H', Pv l.length σ' H' → D.nx σ' H') :
    tFor (iStr te) (gName j) tu D σ H := q_forS (tz := fun D => D.nx) h Pv h0 hs hd
/-- a comprehension over a text -/
theorem el_mapS {j : Nat} {vs : List Nat} {l : List Nat} (ys : List V) (h : Ev tb σ H (.str (tx l))) (hn : ys.length = l.length) (hz : l.length ≤ 40000) (hw : ∀ x, wipe ((wipe σ vs).set j (some x)) vs = wipe σ vs)
    (he : ∀ (i c : Nat) (y : V) H1, Ex H H1 → l[i]? = some c → ys[i]? = some y → Ev te ((wipe σ vs).set j (some (.str (tx [c])))) H1 y) : EvL (tLc (iStr tb) (gName j) tYes te vs) σ H ys := fun H0 e Q q => h H0 e _ fun H1 e1 => ⟨tx l, rfl, fun Dl hD =>
  lc_it walk_str (Cm H1 ys Dl) ⟨hD, Ex.new hD, upd_same⟩ (fun _ _ _ _ => True.intro) (fun i v H' H2 hi p yy => by
    obtain ⟨rfl, c, hc, rfl⟩ := yy
    have hc' : l[i]? = some c := by
      rw [← hc]
      simp [tx]
    obtain ⟨y, hy⟩ := get_of hn (List.getElem?_eq_some_iff.mp hc').1
    refine ⟨hw _, ?_⟩
    show te _ H2 _
    exact cm_turn p (Ex.refl _) hy (by omega) (he i c y H1 (e.trans e1) hc' hy)) (fun H' p => by
    have ec : (tx l).cps.size = l.length := by simp [tx]
    rw [ec] at p
    exact q Dl H' (fresh_back e1 p.1) (e1.trans p.2.1) (cm_end p hn))⟩
end
end SP

set_option maxHeartbeats 4000000
/-! the law's own walk over the pairs: the mathematics -/
namespace HF
def key (W : List Int) (k : Int) : Nd := (W.getD k.toNat 0, k)
def Least (W L : List Int) (o t : Int) : Prop := o ∈ L ∧ t ∈ L ∧ o ≠ t ∧ nle (key W o) (key W t) ∧ ∀ k ∈ L, k ≠ o → nle (key W t) (key W k)
def keep (o t : Int) : Int → Bool := fun k => (!decide (k = o)) && (!decide (k = t))
structure At3 (n i : Nat) (W L : List Int) (rest : List (Int × Int)) : Prop where
  wl : W.length = n + i
  ll : L.length + i = n
  nd : L.Nodup
  rg : ∀ k ∈ L, 0 ≤ k ∧ k < (W.length : Int)
  st : ∃ fr, (L.map (key W)).Perm fr ∧ Sorted fr ∧ rest = huff fr.length fr ((n : Int) + (i : Int))
theorem key_inj {W : List Int} {k j : Int} (h : key W k = key W j) : k = j := congrArg Prod.snd h
theorem nodup_key {W L : List Int} (h : L.Nodup) : (L.map (key W)).Nodup := by
  induction L with
  | nil => exact List.nodup_nil
  | cons k r ih =>
    obtain ⟨h1, h2⟩ := List.nodup_cons.mp h
    rw [List.map_cons]
    refine List.nodup_cons.mpr ⟨fun hm => ?_, ih h2⟩
    obtain ⟨j, hj, e⟩ := List.mem_map.mp hm
    exact h1 (by rw [← key_inj e]; exact hj)
theorem keep_perm {L : List Int} {o t : Int} (hn : L.Nodup) (ho : o ∈ L) (ht : t ∈ L) (hne : o ≠ t) : L.Perm (o :: t :: L.filter (keep o t)) := by
  have h1 := List.perm_cons_erase ho
  have h2 : t ∈ L.erase o := (List.mem_erase_of_ne (Ne.symm hne)).mpr ht
  have h3 := List.perm_cons_erase h2
  have e : (L.erase o).erase t = L.filter (keep o t) := by
    rw [List.Nodup.erase_eq_filter (List.Nodup.erase o hn), List.Nodup.erase_eq_filter hn, List.filter_filter]
    refine List.filter_congr fun k _ => ?_
    unfold keep
    by_cases e1 : k = o <;> by_cases e2 : k = t <;> simp [e1, e2]
  rw [e] at h3
  exact h1.trans (List.Perm.cons o h3)
theorem key_old {W : List Int} {k w : Int} (h0 : 0 ≤ k) (h : k < (W.length : Int)) : key (W ++ [w]) k = key W k := by
  unfold key
  rw [List.getD_eq_getElem?_getD, List.getD_eq_getElem?_getD, List.getElem?_append_left (by omega)]
theorem key_new {W : List Int} {w : Int} : key (W ++ [w]) (W.length : Int) = (w, (W.length : Int)) := by
  unfold key
  rw [List.getD_eq_getElem?_getD, Int.toNat_natCast, List.getElem?_append_right (Nat.le_refl _)]
  simp
theorem at3_start (ns : List Int) : At3 ns.length 0 ns ((List.range ns.length).map fun k : Nat => (k : Int)) (made ns) where
  wl := rfl
  ll := by simp
  nd := by
    refine List.pairwise_map.mpr (List.Pairwise.imp ?_ List.nodup_range)
    intro a b h e
    have e2 : (a : Int) = (b : Int) := e
    omega
  rg := fun k hk => by
    obtain ⟨j, hj, rfl⟩ := List.mem_map.mp hk
    have := List.mem_range.mp hj
    omega
  st := ⟨srt (nodes ns), by
    have e : ((List.range ns.length).map fun k : Nat => (k : Int)).map (key ns) = nodes ns := by
      refine List.ext_getElem? fun i => ?_
      rw [List.map_map, List.getElem?_map]
      by_cases hi : i < ns.length
      · rw [List.getElem?_range hi, nodes_at (List.getElem?_eq_getElem hi)]
        simp [key, List.getD_eq_getElem?_getD, List.getElem?_eq_getElem hi]
      · rw [List.getElem?_eq_none (by rw [List.length_range]; omega), List.getElem?_eq_none (by rw [nodes_len]; omega)]
        rfl
    rw [e]
    exact (srt_perm _).symm, srt_sorted _, by rw [made_eq]; simp⟩
theorem at3_step {n i : Nat} {W L : List Int} {o t : Int} {rest : List (Int × Int)} (h : At3 n i W L ((o, t) :: rest)) :
    Least W L o t ∧ At3 n (i + 1) (W ++ [W.getD o.toNat 0 + W.getD t.toNat 0]) (L.filter (keep o t) ++ [(W.length : Int)]) rest := by
  obtain ⟨wl, ll, nd, rg, fr, hp, hs, hr⟩ := h
  match fr, hp, hs, hr with
  | [], _, _, hr => rw [huff_end (by simp)] at hr; cases hr
  | [_], _, _, hr => rw [huff_end (by simp)] at hr; cases hr
  | a :: b :: r, hp, ⟨s1, s2, s3⟩, hr =>
    rw [huff_two] at hr
    injection hr with hr1 hr2
    injection hr1 with eo et
    obtain ⟨ko, hko, eko⟩ := List.mem_map.mp (hp.mem_iff.mpr (List.mem_cons_self))
    obtain ⟨kt, hkt, ekt⟩ := List.mem_map.mp (hp.mem_iff.mpr (List.mem_cons_of_mem a (List.mem_cons_self)))
    have e1 : ko = o := by rw [eo, ← eko]; rfl
    have e2 : kt = t := by rw [et, ← ekt]; rfl
    subst e1 e2
    have ndf : (a :: b :: r).Nodup := hp.nodup_iff.mp (nodup_key nd)
    have hne : ko ≠ kt := fun e => by
      rw [e, ekt] at eko
      exact (List.nodup_cons.mp ndf).1 (by rw [← eko]; exact List.mem_cons_self)
    refine ⟨⟨hko, hkt, hne, ?_, fun k hk hkn => ?_⟩, ?_⟩
    · rw [eko, ekt]
      exact s1 b List.mem_cons_self
    · rw [ekt]
      have hm := hp.mem_iff.mp (List.mem_map_of_mem (f := key W) hk)
      rcases List.mem_cons.mp hm with e | hm
      · exact absurd (key_inj (e.trans eko.symm)) hkn
      · rcases List.mem_cons.mp hm with e | hm
        · rw [e]
          rcases nle_tot b b with h | h <;> exact h
        · exact s2 _ hm
    · have kp := keep_perm nd hko hkt hne
      have kl := kp.length_eq
      rw [List.length_cons, List.length_cons] at kl
      refine ⟨by rw [List.length_append, wl]; simp; omega, by rw [List.length_append]; simp; omega, ?_, fun k hk => ?_, ins (a.1 + b.1, (n : Int) + (i : Int)) r, ?_, ins_sorted _ s3, ?_⟩
      · refine List.nodup_append.mpr ⟨List.Pairwise.filter _ nd, by simp, fun k hk j hj => ?_⟩
        have h1 := rg k (List.mem_filter.mp hk).1
        have h2 : j = (W.length : Int) := by simpa using hj
        omega
      · rw [List.length_append]
        rcases List.mem_append.mp hk with hk | hk
        · have h1 := rg k (List.mem_filter.mp hk).1
          simp
          omega
        · have h2 : k = (W.length : Int) := by simpa using hk
          simp
          omega
      · have pr : ((L.filter (keep ko kt)).map (key W)).Perm r := by
          have h1 := (kp.map (key W)).symm.trans hp
          rw [List.map_cons, List.map_cons, eko, ekt] at h1
          exact h1.cons_inv.cons_inv
        have em : (L.filter (keep ko kt)).map (key (W ++ [W.getD ko.toNat 0 + W.getD kt.toNat 0])) = (L.filter (keep ko kt)).map (key W) := by
          refine List.map_congr_left fun k hk => ?_
          have h1 := rg k (List.mem_filter.mp hk).1
          exact key_old h1.1 h1.2
        rw [List.map_append, em]
        show (_ ++ [key (W ++ [W.getD ko.toNat 0 + W.getD kt.toNat 0]) (W.length : Int)]).Perm _
        rw [key_new]
        have ea : W.getD ko.toNat 0 = a.1 := by rw [← eko]; rfl
        have eb : W.getD kt.toNat 0 = b.1 := by rw [← ekt]; rfl
        rw [ea, eb, wl]
        refine List.Perm.trans ?_ (ins_perm _ _).symm
        refine List.perm_append_comm.trans ?_
        show ((a.1 + b.1, ((n + i : Nat) : Int)) :: _).Perm _
        rw [show ((n + i : Nat) : Int) = (n : Int) + (i : Int) by omega]
        exact List.Perm.cons _ pr
      · rw [hr2]
        congr 1
end HF

set_option maxHeartbeats 4000000
/-! the codes: the mathematics -/
namespace HF
abbrev Wd := List (List Nat)
def wat (D : Wd) (k : Int) : List Nat := D.getD k.toNat []
/-- one pair's both, behind the pair's own way -/
def put (D : Wd) (b : Nat) (r : Int × Int) : Wd := (D.set r.1.toNat (wat D (b : Int) ++ [48])).set r.2.toNat (wat D (b : Int) ++ [49])
/-- from the last pair on; b: the first pair's number -/
def fill : Nat → List (Int × Int) → Wd → Wd
  | _, [], D => D
  | b, r :: rest, D => put (fill (b + 1) rest D) b r
theorem put_len (D : Wd) (b : Nat) (r : Int × Int) : (put D b r).length = D.length := by simp [put]
theorem fill_len : ∀ (rest : List (Int × Int)) (b : Nat) (D : Wd), (fill b rest D).length = D.length
  | [], _, _ => rfl
  | r :: rest, b, D => by
    show (put (fill (b + 1) rest D) b r).length = _
    rw [put_len, fill_len rest]
theorem wat_set {D : Wd} {i : Nat} {z : List Nat} {k : Int} (hk : 0 ≤ k) (hi : i < D.length) : wat (D.set i z) k = if k = (i : Int) then z else wat D k := by
  unfold wat
  rw [List.getD_eq_getElem?_getD, List.getD_eq_getElem?_getD, List.getElem?_set]
  by_cases e : i = k.toNat
  · have ek : k = (i : Int) := by omega
    rw [if_pos e, if_pos ek, if_pos hi]
    rfl
  · rw [if_neg e, if_neg (by omega)]
theorem put_at {D : Wd} {b : Nat} {o t k : Int} (ho : 0 ≤ o) (ho2 : o < (D.length : Int)) (ht : 0 ≤ t) (ht2 : t < (D.length : Int)) (hk : 0 ≤ k) :
    wat (put D b (o, t)) k = if k = t then wat D (b : Int) ++ [49] else if k = o then wat D (b : Int) ++ [48] else wat D k := by
  unfold put
  rw [wat_set hk (by rw [List.length_set]; show t.toNat < D.length; omega), wat_set hk (by show o.toNat < D.length; omega)]
  have e1 : ((t.toNat : Nat) : Int) = t := by omega
  have e2 : ((o.toNat : Nat) : Int) = o := by omega
  show (if k = ((t.toNat : Nat) : Int) then _ else if k = ((o.toNat : Nat) : Int) then _ else _) = _
  rw [e1, e2]
/-- where the pairs are gone through, with the newest node still there -/
def At4 (n i : Nat) (W L : List Int) (rest : List (Int × Int)) : Prop := At3 n i W L rest ∧ ((n + i : Nat) : Int) - 1 ∈ L
theorem at4_start {ns : List Int} (h : 1 ≤ ns.length) : At4 ns.length 0 ns ((List.range ns.length).map fun k : Nat => (k : Int)) (made ns) :=
  ⟨at3_start ns, List.mem_map.mpr ⟨ns.length - 1, List.mem_range.mpr (by omega), by omega⟩⟩
theorem at4_step {n i : Nat} {W L : List Int} {o t : Int} {rest : List (Int × Int)} (h : At4 n i W L ((o, t) :: rest)) :
    Least W L o t ∧ At4 n (i + 1) (W ++ [W.getD o.toNat 0 + W.getD t.toNat 0]) (L.filter (keep o t) ++ [((n + i : Nat) : Int)]) rest := by
  obtain ⟨h1, h2⟩ := at3_step h.1
  have e := h.1.wl
  rw [e] at h2
  exact ⟨h1, h2, List.mem_append_right _ (by simp; omega)⟩
theorem at4_end {n i : Nat} {W L : List Int} (h : At4 n i W L []) : L = [((n + i : Nat) : Int) - 1] ∧ i + 1 = n := by
  obtain ⟨⟨wl, ll, nd, rg, fr, hp, hs, hr⟩, hm⟩ := h
  have hl : fr.length ≤ 1 := by
    match fr, hr with
    | [], _ => simp
    | [_], _ => simp
    | a :: b :: r, hr =>
      rw [huff_two] at hr
      cases hr
  have hL : L.length ≤ 1 := by
    rw [← List.length_map (f := key W), hp.length_eq]
    exact hl
  match L, hm, hL, ll with
  | [x], hm, _, ll =>
    have : ((n + i : Nat) : Int) - 1 = x := by simpa using hm
    rw [this]
    exact ⟨rfl, by simp at ll; omega⟩
  | [], hm, _, _ => simp at hm
  | _ :: _ :: _, _, hL, _ => simp at hL
/-- how many pairs are left -/
theorem at4_rest {n : Nat} : ∀ {rest : List (Int × Int)} {i : Nat} {W L : List Int}, At4 n i W L rest → i + 1 + rest.length = n
  | [], i, W, L, h => by
    have := (at4_end h).2
    simp
    omega
  | (o, t) :: rest, i, W, L, h => by
    have := at4_rest (at4_step h).2
    rw [List.length_cons]
    omega
/-- the step, seen from the words -/
structure StepW (n i : Nat) (L : List Int) (o t : Int) (D D' : Wd) : Prop where
  o_in : o ∈ L
  t_in : t ∈ L
  ne : o ≠ t
  olt : 0 ≤ o ∧ o < ((n + i : Nat) : Int)
  tlt : 0 ≤ t ∧ t < ((n + i : Nat) : Int)
  wo : wat D' o = wat D ((n + i : Nat) : Int) ++ [48]
  wt : wat D' t = wat D ((n + i : Nat) : Int) ++ [49]
  wk : ∀ k, 0 ≤ k → k ≠ o → k ≠ t → wat D' k = wat D k
theorem step_w {n i : Nat} {W L : List Int} {o t : Int} {rest : List (Int × Int)} {D0 : Wd} (h : At4 n i W L ((o, t) :: rest)) (hD : D0.length = n + (n - 1)) :
    StepW n i L o t (fill (n + i + 1) rest D0) (fill (n + i) ((o, t) :: rest) D0) := by
  obtain ⟨⟨h1, h2, h3, h4, h5⟩, h6⟩ := at4_step h
  have r1 := h.1.rg o h1
  have r2 := h.1.rg t h2
  have wl := h.1.wl
  have hr := at4_rest h
  rw [List.length_cons] at hr
  rw [wl] at r1 r2
  have hl : (fill (n + i + 1) rest D0).length = n + (n - 1) := by rw [fill_len, hD]
  have pa : ∀ k, 0 ≤ k → wat (fill (n + i) ((o, t) :: rest) D0) k = if k = t then wat (fill (n + i + 1) rest D0) ((n + i : Nat) : Int) ++ [49] else if k = o then wat (fill (n + i + 1) rest D0) ((n + i : Nat) : Int) ++ [48] else wat (fill (n + i + 1) rest D0) k := fun k hk =>
    put_at r1.1 (by rw [hl]; omega) r2.1 (by rw [hl]; omega) hk
  refine ⟨h1, h2, h3, r1, r2, ?_, ?_, fun k hk k1 k2 => ?_⟩
  · rw [pa o r1.1, if_neg h3, if_pos rfl]
  · rw [pa t r2.1, if_pos rfl]
  · rw [pa k hk, if_neg k2, if_neg k1]

/-! the way from the top -/
def nxt (rows : List (Int × Int)) (n : Nat) (node : Int) (b : Nat) : Int := if b = 48 then (rows.getD (node - n).toNat (0, 0)).1 else (rows.getD (node - n).toNat (0, 0)).2
def walkF (rows : List (Int × Int)) (n : Nat) : Int → List Nat → Int
  | node, [] => node
  | node, b :: w => if node < (n : Int) ∨ (b ≠ 48 ∧ b ≠ 49) then -1 else if nxt rows n node b < 0 ∨ (n : Int) + rows.length ≤ nxt rows n node b then -1 else walkF rows n (nxt rows n node b) w
theorem walk_cons (rows : List (Int × Int)) (n : Nat) (node : Int) (b : Nat) (w : List Nat) : walkF rows n node (b :: w) =
    if node < (n : Int) ∨ (b ≠ 48 ∧ b ≠ 49) then -1 else if nxt rows n node b < 0 ∨ (n : Int) + rows.length ≤ nxt rows n node b then -1 else walkF rows n (nxt rows n node b) w := rfl
theorem walk_nil (rows : List (Int × Int)) (n : Nat) (node : Int) : walkF rows n node [] = node := rfl
theorem walk_neg (rows : List (Int × Int)) (n : Nat) : ∀ w, walkF rows n (-1) w = -1
  | [] => rfl
  | b :: w => by rw [walk_cons, if_pos (Or.inl (by omega))]
theorem walk_app (rows : List (Int × Int)) (n : Nat) : ∀ (w v : List Nat) (node : Int), walkF rows n node (w ++ v) = walkF rows n (walkF rows n node w) v
  | [], v, node => rfl
  | b :: w, v, node => by
    rw [List.cons_append, walk_cons, walk_cons]
    by_cases h1 : node < (n : Int) ∨ (b ≠ 48 ∧ b ≠ 49)
    · rw [if_pos h1, if_pos h1]
      exact (walk_neg rows n v).symm
    · rw [if_neg h1, if_neg h1]
      by_cases h2 : nxt rows n node b < 0 ∨ (n : Int) + rows.length ≤ nxt rows n node b
      · rw [if_pos h2, if_pos h2]
        exact (walk_neg rows n v).symm
      · rw [if_neg h2, if_neg h2]
        exact walk_app rows n w v _
/-- every node there is, and every pair made from here on, is reached by its word -/
theorem fill_walk {n : Nat} {rows : List (Int × Int)} {D0 : Wd} (hD : D0.length = n + (n - 1)) (h0 : ∀ z ∈ D0, z = []) : ∀ {rest : List (Int × Int)} {i : Nat} {W L : List Int}, At4 n i W L rest → rows.drop i = rest → rows.length + 1 = n →
    ∀ k, k ∈ L ∨ (((n + i : Nat) : Int) ≤ k ∧ k < (n : Int) + rows.length) → walkF rows n ((n : Int) + rows.length - 1) (wat (fill (n + i) rest D0) k) = k
  | [], i, W, L, h, hr, hn, k, hk => by
    obtain ⟨eL, ei⟩ := at4_end h
    have hk2 : k = (n : Int) + rows.length - 1 := by
      rw [eL] at hk
      rcases hk with hk | hk
      · have : k = ((n + i : Nat) : Int) - 1 := by simpa using hk
        omega
      · omega
    have e : wat D0 k = [] := by
      unfold wat
      rw [List.getD_eq_getElem?_getD]
      cases hz : D0[k.toNat]? with
      | none => rfl
      | some z => exact h0 z (List.mem_of_getElem? hz)
    show walkF rows n _ (wat D0 k) = k
    rw [e, hk2]
    rfl
  | (o, t) :: rest, i, W, L, h, hr, hn, k, hk => by
    have S := step_w h hD
    obtain ⟨_, h6⟩ := at4_step h
    have hil : i < rows.length := by
      have := at4_rest h
      rw [List.length_cons] at this
      omega
    have hdrop : rows.drop (i + 1) = rest := by
      rw [List.drop_eq_getElem_cons hil] at hr
      injection hr
    have hrow : rows[i] = (o, t) := by
      rw [List.drop_eq_getElem_cons hil] at hr
      injection hr
    have ih := fun k hk => fill_walk hD h0 h6 hdrop hn k hk
    have ihp := ih ((n + i : Nat) : Int) (Or.inl (List.mem_append_right _ (by simp)))
    rw [show n + (i + 1) = n + i + 1 by omega] at ih ihp
    have gd : rows.getD (((n + i : Nat) : Int) - (n : Int)).toNat (0, 0) = (o, t) := by
      rw [show (((n + i : Nat) : Int) - (n : Int)).toNat = i by omega, List.getD_eq_getElem?_getD, List.getElem?_eq_getElem hil, hrow]
      rfl
    have o1 := S.olt
    have t1 := S.tlt
    by_cases e1 : k = o
    · subst e1
      have en : nxt rows n ((n + i : Nat) : Int) 48 = k := by
        unfold nxt
        rw [gd, if_pos rfl]
      rw [S.wo, walk_app, ihp, walk_cons, if_neg (by omega), en, if_neg (by omega), walk_nil]
    · by_cases e2 : k = t
      · subst e2
        have en : nxt rows n ((n + i : Nat) : Int) 49 = k := by
          unfold nxt
          rw [gd, if_neg (show ¬ (49 : Nat) = 48 by decide)]
        rw [S.wt, walk_app, ihp, walk_cons, if_neg (by omega), en, if_neg (by omega), walk_nil]
      · have hk0 : 0 ≤ k := by
          rcases hk with hk | hk
          · exact (h.1.rg k hk).1
          · omega
        rw [S.wk k hk0 e1 e2]
        refine ih k ?_
        rcases hk with hk | hk
        · refine Or.inl (List.mem_append_left _ (List.mem_filter.mpr ⟨hk, ?_⟩))
          unfold keep
          simp [e1, e2]
        · by_cases e3 : k = ((n + i : Nat) : Int)
          · exact Or.inl (List.mem_append_right _ (by simp [e3]))
          · exact Or.inr ⟨by omega, hk.2⟩
/-- the codes of the signs -/
def wordsAll (ns : List Int) : Wd := fill ns.length (made ns) (List.replicate (ns.length + (ns.length - 1)) [])
def codes (ns : List Int) : Wd := (wordsAll ns).take ns.length
theorem wordsAll_len (ns : List Int) : (wordsAll ns).length = ns.length + (ns.length - 1) := by
  unfold wordsAll
  rw [fill_len, List.length_replicate]
theorem codes_len (ns : List Int) : (codes ns).length = ns.length := by
  unfold codes
  rw [List.length_take, wordsAll_len]
  omega
theorem code_at {ns : List Int} {k : Nat} (h : k < ns.length) : (codes ns)[k]? = some (wat (wordsAll ns) (k : Int)) := by
  unfold codes wat
  rw [List.getElem?_take, if_pos h, Int.toNat_natCast, List.getD_eq_getElem?_getD, List.getElem?_eq_getElem (by rw [wordsAll_len]; omega)]
  rfl
theorem code_walk {ns : List Int} (h1 : 1 ≤ ns.length) {k : Nat} {w : List Nat} (hw : (codes ns)[k]? = some w) : walkF (made ns) ns.length ((ns.length : Int) + (made ns).length - 1) w = (k : Int) := by
  have hk : k < ns.length := by
    have := (List.getElem?_eq_some_iff.mp hw).1
    rwa [codes_len] at this
  rw [code_at hk] at hw
  cases hw
  have hl := made_len ns
  exact fill_walk (rows := made ns) (by rw [List.length_replicate]) (fun z hz => (List.mem_replicate.mp hz).2) (at4_start h1) rfl (by omega) (k : Int) (Or.inl (List.mem_map.mpr ⟨k, List.mem_range.mpr hk, rfl⟩))
/-- no code begins another one -/
theorem code_apart {ns : List Int} (h1 : 1 ≤ ns.length) {k j : Nat} {w v : List Nat} (hw : (codes ns)[k]? = some w) (hv : (codes ns)[j]? = some (w ++ v)) : k = j := by
  have a := code_walk h1 hw
  have b := code_walk h1 hv
  rw [walk_app, a] at b
  have hk : k < ns.length := by
    have := (List.getElem?_eq_some_iff.mp hw).1
    rwa [codes_len] at this
  cases v with
  | nil =>
    have : (k : Int) = (j : Int) := b
    omega
  | cons c r =>
    rw [walk_cons, if_pos (Or.inl (by omega))] at b
    omega
/-- all words are bits -/
theorem fill_bits {n : Nat} {D0 : Wd} (hD : D0.length = n + (n - 1)) (h0 : ∀ z ∈ D0, z = []) : ∀ {rest : List (Int × Int)} {i : Nat} {W L : List Int}, At4 n i W L rest → ∀ k, 0 ≤ k → (∀ b ∈ wat (fill (n + i) rest D0) k, b = 48 ∨ b = 49) ∧ (wat (fill (n + i) rest D0) k).length ≤ rest.length
  | [], i, W, L, h, k, hk => by
    have e : wat D0 k = [] := by
      unfold wat
      rw [List.getD_eq_getElem?_getD]
      cases hz : D0[k.toNat]? with
      | none => rfl
      | some z => exact h0 z (List.mem_of_getElem? hz)
    show (∀ b ∈ wat D0 k, _) ∧ (wat D0 k).length ≤ 0
    rw [e]
    exact ⟨fun b hb => absurd hb List.not_mem_nil, Nat.le_refl _⟩
  | (o, t) :: rest, i, W, L, h, k, hk => by
    have S := step_w h hD
    obtain ⟨_, h6⟩ := at4_step h
    have ih := fun k hk => fill_bits hD h0 h6 k hk
    rw [show n + (i + 1) = n + i + 1 by omega] at ih
    obtain ⟨i1, i2⟩ := ih ((n + i : Nat) : Int) (by omega)
    by_cases e1 : k = o
    · subst e1
      rw [S.wo]
      refine ⟨fun b hb => ?_, by rw [List.length_append, List.length_cons]; simpa using i2⟩
      rcases List.mem_append.mp hb with hb | hb
      · exact i1 b hb
      · exact Or.inl (by simpa using hb)
    · by_cases e2 : k = t
      · subst e2
        rw [S.wt]
        refine ⟨fun b hb => ?_, by rw [List.length_append, List.length_cons]; simpa using i2⟩
        rcases List.mem_append.mp hb with hb | hb
        · exact i1 b hb
        · exact Or.inr (by simpa using hb)
      · rw [S.wk k hk e1 e2]
        obtain ⟨j1, j2⟩ := ih k hk
        exact ⟨j1, by rw [List.length_cons]; omega⟩
theorem code_bits {ns : List Int} (h1 : 1 ≤ ns.length) {k : Nat} {w : List Nat} (hw : (codes ns)[k]? = some w) : (∀ b ∈ w, b = 48 ∨ b = 49) ∧ w.length + 1 ≤ ns.length := by
  have hk : k < ns.length := by
    have := (List.getElem?_eq_some_iff.mp hw).1
    rwa [codes_len] at this
  rw [code_at hk] at hw
  cases hw
  have hl := made_len ns
  obtain ⟨a, b⟩ := fill_bits (n := ns.length) (D0 := List.replicate (ns.length + (ns.length - 1)) []) (by rw [List.length_replicate]) (fun z hz => (List.mem_replicate.mp hz).2) (at4_start h1) (k : Int) (by omega)
  exact ⟨a, by unfold wordsAll; rw [Nat.add_zero] at b; omega⟩
/-- both of a pair are numbers of ahead -/
theorem made_rng {n : Nat} : ∀ {rest : List (Int × Int)} {i : Nat} {W L : List Int}, At4 n i W L rest → ∀ (j : Nat) (r : Int × Int), rest[j]? = some r → 0 ≤ r.1 ∧ r.1 < ((n + i + j : Nat) : Int) ∧ 0 ≤ r.2 ∧ r.2 < ((n + i + j : Nat) : Int)
  | [], i, W, L, h, j, r, hr => by simp at hr
  | (o, t) :: rest, i, W, L, h, j, r, hr => by
    obtain ⟨⟨h1, h2, _⟩, h6⟩ := at4_step h
    have r1 := h.1.rg o h1
    have r2 := h.1.rg t h2
    rw [h.1.wl] at r1 r2
    cases j with
    | zero =>
      cases hr
      exact ⟨r1.1, r1.2, r2.1, r2.2⟩
    | succ j =>
      have := made_rng h6 j r (by simpa using hr)
      rw [show n + (i + 1) + j = n + i + (j + 1) by omega] at this
      exact this
theorem made_row {ns : List Int} (h1 : 1 ≤ ns.length) {j : Nat} {r : Int × Int} (hr : (made ns)[j]? = some r) : 0 ≤ r.1 ∧ r.1 < ((ns.length + j : Nat) : Int) ∧ 0 ≤ r.2 ∧ r.2 < ((ns.length + j : Nat) : Int) :=
  made_rng (at4_start h1) j r hr
end HF
namespace HF
theorem at4_drop' {n : Nat} : ∀ {rest : List (Int × Int)} {i : Nat} {W L : List Int}, At4 n i W L rest → ∀ j, j ≤ rest.length → ∃ W' L', At4 n (i + j) W' L' (rest.drop j)
  | rest, i, W, L, h, 0, _ => ⟨W, L, h⟩
  | [], i, W, L, h, j + 1, hj => by simp at hj
  | (o, t) :: rest, i, W, L, h, j + 1, hj => by
    have := at4_drop' (at4_step h).2 j (by simpa using hj)
    rw [show i + 1 + j = i + (j + 1) by omega] at this
    exact this
theorem at4_drop {ns : List Int} (h : 1 ≤ ns.length) {j : Nat} (hj : j ≤ (made ns).length) : ∃ W L, At4 ns.length j W L ((made ns).drop j) := by
  have := at4_drop' (at4_start h) j hj
  rwa [Nat.zero_add] at this
end HF

set_option maxHeartbeats 4000000
namespace SP
open PySem L2 Evl
/-- words as values -/
def wv (D : HF.Wd) : List V := D.map fun w => V.str (tx w)
theorem wv_len (D : HF.Wd) : (wv D).length = D.length := by simp [wv]
theorem wv_at {D : HF.Wd} {k : Int} (h0 : 0 ≤ k) (h : k < (D.length : Int)) : atI (wv D) k = some (.str (tx (HF.wat D k))) := by
  have e : k = ((k.toNat : Nat) : Int) := by omega
  have hlt : k.toNat < D.length := by omega
  rw [e]
  refine atI_nat ?_
  unfold wv HF.wat
  rw [List.getElem?_map, List.getD_eq_getElem?_getD, show ((k.toNat : Nat) : Int).toNat = k.toNat by omega, List.getElem?_eq_getElem hlt]
  rfl
theorem wv_set (D : HF.Wd) (i : Nat) (w : List Nat) : (wv D).set i (.str (tx w)) = wv (D.set i w) := by
  unfold wv
  rw [List.map_set]
theorem wv_rep (n : Nat) : (List.replicate n [V.str (tx [])]).flatten = wv (List.replicate n []) := by
  unfold wv
  induction n with
  | zero => rfl
  | succ n ih =>
    rw [List.replicate_succ, List.flatten_cons, ih, List.replicate_succ, List.map_cons]
    rfl
theorem cut_to (xs : List V) (n : Nat) : cutV xs none (some (n : Int)) = xs.take n := by
  unfold cutV
  rw [HT.sIx_none, HT.sIx_nat, List.drop_zero, Nat.sub_zero]
  by_cases h : n ≤ xs.length
  · rw [Nat.min_eq_left h]
  · rw [Nat.min_eq_right (by omega), List.take_of_length_le (Nat.le_refl _), List.take_of_length_le (by omega)]
theorem cut_from (xs : List V) (n : Nat) : cutV xs (some (n : Int)) none = xs.drop n := by
  unfold cutV
  rw [HT.sIx_none, HT.sIx_nat]
  by_cases h : n ≤ xs.length
  · rw [Nat.min_eq_left h, List.take_of_length_le (by rw [List.length_drop]; omega)]
  · rw [Nat.min_eq_right (by omega), List.drop_of_length_le (Nat.le_refl _), List.drop_of_length_le (show xs.length ≤ n by omega)]
    simp
section
variable {K : PySem.W.Frag} {σ : L2.St} {H H' : Hp} {ta tb te : TE} {D : Ends} {tz tu : TS}
/-- [..] * k -/
theorem el_rep {xs : List V} {k : Int} (ha : EvL ta σ H xs) (hb : Ev tb σ H (.int k)) (h1 : 0 ≤ k) (h2 : k < 2 ^ 62) (hz : xs.length * k.toNat ≤ sizeLine) : EvL (tOp rRep ta tb) σ H (List.replicate k.toNat xs).flatten := fun H1 e Q q =>
  ha H1 e _ fun p H2 hp e2 h => hb H2 (e.trans e2) _ fun H3 e3 => ⟨p, k, xs, rfl, rfl, e3 _ _ h, by omega, by omega, hz, fun r hr => q r _ (fresh_back (e2.trans e3) hr) ((e2.trans e3).trans (Ex.new hr)) upd_same⟩
/-- [''] * n -/
theorem el_repE {n : Nat} (ha : EvL ta σ H [V.str (tx [])]) (hb : Ev tb σ H (.int (n : Int))) (hn : n ≤ 100000) : EvL (tOp rRep ta tb) σ H (wv (List.replicate n [])) := by
  have h := el_rep (k := (n : Int)) ha hb (by omega) (by omega) (by simp; exact sz_of (by omega))
  rw [Int.toNat_natCast, wv_rep] at h
  exact h
/-- xs[:n] -/
theorem el_to {K : PySem.W.Frag} {tl : TE} {a : Addr} {xs : List V} {n : Nat} (h : Ev te σ H (.ref a)) (hn : Ev tl σ H (.int (n : Int))) (hs : SqL K H a xs) : EvL (tSl (rSlL K) te tNoPart (tPart tl)) σ H (xs.take n) := by
  have h := el_sl h eo_none (eo_some hn) hs
  rw [cut_to] at h
  exact h
/-- xs[n:] -/
theorem el_from {K : PySem.W.Frag} {tl : TE} {a : Addr} {xs : List V} {n : Nat} (h : Ev te σ H (.ref a)) (hn : Ev tl σ H (.int (n : Int))) (hs : SqL K H a xs) : EvL (tSl (rSlL K) te (tPart tl) tNoPart) σ H (xs.drop n) := by
  have h := el_sl h (eo_some hn) eo_none hs
  rw [cut_from] at h
  exact h
/-- text[:n] -/
theorem cutS_to (l : List Nat) (n : Nat) : cutS (tx l) none (some (n : Int)) = tx (l.take n) := by
  unfold cutS
  rw [HT.sIx_none, HT.sIx_nat, tx_cps, tx_len, List.drop_zero, Nat.sub_zero]
  by_cases h : n ≤ l.length
  · rw [Nat.min_eq_left h]
    rfl
  · rw [Nat.min_eq_right (by omega), List.take_of_length_le (Nat.le_refl _), List.take_of_length_le (by omega)]
    rfl
theorem ev_toS {tl : TE} {l : List Nat} {n : Nat} (h : Ev te σ H (.str (tx l))) (hn : Ev tl σ H (.int (n : Int))) (hz : l.length ≤ 100000) : Ev (tSl rSlS te tNoPart (tPart tl)) σ H (.str (tx (l.take n))) := fun H1 e Q q =>
  h H1 e _ fun H2 e2 => hn H2 (e.trans e2) _ fun H3 e3 => ⟨(n : Int), rfl, tx l, rfl, by rw [tx_len]; exact sz_of hz, by
    rw [cutS_to]
    exact q H3 (e2.trans e3)⟩
/-- max of a new list -/
theorem ev_maxN {K : PySem.W.Frag} {ns : List Int} {m : Int} (h : EvL te σ H (ns.map V.int)) (hm : m ∈ ns) (hle : ∀ y ∈ ns, y ≤ m) : Ev (tCB (rMax K) (tCons te tNil)) σ H (.int m) := fun H1 e Q q =>
  h H1 e _ fun p H2 _ e2 h2 => ⟨p, ns, rfl, sq_of h2, List.length_pos_of_mem hm, fun m' h1 h3 => by
    have : m' = m := by
      have a := hle m' h1
      have b := h3 m hm
      omega
    rw [this]
    exact q H2 e2⟩
/-- for i in reversed(range(n)) -/
theorem q_forRev {j : Nat} {n : Nat} (h : Ev ta σ H (.int (n : Int))) (hn : n ≤ 100000) (Pv : Nat → L2.St → Hp → Prop) (h0 : ∀ H1, Ex H H1 → Pv 0 σ H1)
    (hs : ∀ (i : Nat) σ' H', i < n → Pv i σ' H' → tu { D with nx := Pv (i + 1), ct := Pv (i + 1), bk := tz D } (σ'.set j (some (.int ((n - 1 - i : Nat) : Int)))) H') (hd : ∀ σ' H', Pv n σ' H' → tz D σ' H') : tSeq (tFor (iRevR (tRg1 ta)) (gName j) tu) tz D σ H :=
  h H (Ex.refl H) _ fun H1 e => ⟨(n : Int), rfl, by omega, by omega, by omega, by omega, by
    have en : ((n : Int) - 0).toNat = n := by omega
    rw [en]
    exact for_it walk_rangeC Pv (h0 H1 e) (fun _ _ _ _ _ => True.intro) (fun i v σ' H' H2 hi p y => by
      obtain ⟨rfl, rfl⟩ := y
      have e2 : (0 : Int) + ((n : Nat) : Int) - 1 + ((i : Nat) : Int) * (-1) = ((n - 1 - i : Nat) : Int) := by omega
      show tu _ (σ'.set j (some (.int ((0 : Int) + ((n : Nat) : Int) - 1 + ((i : Nat) : Int) * (-1))))) H2
      rw [e2]
      exact hs i σ' H2 hi p) hd⟩
/-- a, b = rows[k] -/
theorem q_row {l : Addr} {ts : List Addr} {rows : List (Int × Int)} {i j : Nat} {k : Nat} {r : Int × Int} (ho : Ev ta σ H (.ref l)) (hi : Ev tb σ H (.int (k : Int))) (hl : SqL K H l (ts.map V.ref)) (hR : Rws H ts rows) (hr : rows[k]? = some r)
    (c : ∀ H1, Ex H H1 → tz D ((σ.set i (some (.int r.1))).set j (some (.int r.2))) H1) : tSeq (tAsg (tOp (rIxL K) ta tb) (gTup K 2 (gCons (gName i) (gCons (gName j) gNil)))) tz D σ H := by
  have hk : k < ts.length := by
    rw [hR.1]
    exact (List.getElem?_eq_some_iff.mp hr).1
  have ht : ts[k]? = some ts[k] := List.getElem?_eq_getElem hk
  have hat : atI (ts.map V.ref) (k : Int) = some (.ref ts[k]) := atI_nat (by rw [List.getElem?_map, ht]; rfl)
  refine ho H (Ex.refl H) _ fun H1 e1 => hi H1 e1 _ fun H2 e2 => ⟨l, _, (k : Int), _, rfl, rfl, ex_l (e1.trans e2) hl, hat, ?_⟩
  exact ⟨ts[k], [.int r.1, .int r.2], rfl, st_of ((e1.trans e2) _ _ (hR.2 k _ r ht hr)), rfl, _, [_], rfl, _, [], rfl, rfl, c H2 (e1.trans e2)⟩
/-- for a, b in rows -/
theorem q_forRows {l : Addr} {ts : List Addr} {rows : List (Int × Int)} {i j : Nat} {K : PySem.W.Frag} (h : Ev te σ H (.ref l)) (hl : H l = some (.lst (ts.map V.ref))) (hR : Rws H ts rows) (Pv : Nat → L2.St → Hp → Prop) (h0 : ∀ H1, Ex H H1 → Pv 0 σ H1)
    (hq : ∀ i σ' H', Pv i σ' H' → H' l = some (.lst (ts.map V.ref)) ∧ Rws H' ts rows)
    (hs : ∀ (n : Nat) (r : Int × Int) (σ' : L2.St) (H' : Hp), rows[n]? = some r → Pv n σ' H' → tu { D with nx := Pv (n + 1), ct := Pv (n + 1), bk := tz D } ((σ'.set i (some (.int r.1))).set j (some (.int r.2))) H') (hd : ∀ σ' H', Pv rows.length σ' H' → tz D σ' H') :
    tSeq (tFor (iList K te) (gTup K 2 (gCons (gName i) (gCons (gName j) gNil))) tu) tz D σ H := by
  have el : (ts.map V.ref).length = rows.length := by rw [List.length_map, hR.1]
  refine q_forL h (sq_of hl) Pv h0 (fun k σ' H' _ p => sq_of (hq k σ' H' p).1) (fun k x σ' H' hx p => ?_) (by rw [el]; exact hd)
  rw [List.getElem?_map] at hx
  cases ht : ts[k]? with
  | none => rw [ht] at hx; cases hx
  | some t =>
    rw [ht] at hx
    cases hx
    have hk : k < rows.length := by
      rw [← hR.1]
      exact (List.getElem?_eq_some_iff.mp ht).1
    have hr : rows[k]? = some rows[k] := List.getElem?_eq_getElem hk
    exact ⟨t, [.int rows[k].1, .int rows[k].2], rfl, st_of ((hq k σ' H' p).2.2 k t _ ht hr), rfl, _, [_], rfl, _, [], rfl, rfl, hs k _ σ' H' hr p⟩
end
end SP

set_option maxHeartbeats 4000000
/-! sums over the nodes: what the codes leave out, what they cost -/
namespace HF
theorem sum_perm {l m : List Int} (h : l.Perm m) : l.sum = m.sum := by
  induction h with
  | nil => rfl
  | cons x _ ih => rw [List.sum_cons, List.sum_cons, ih]
  | swap x y l =>
    rw [List.sum_cons, List.sum_cons, List.sum_cons, List.sum_cons]
    omega
  | trans _ _ i1 i2 => exact i1.trans i2
theorem sum_app (l m : List Int) : (l ++ m).sum = l.sum + m.sum := by
  induction l with
  | nil => simp
  | cons x r ih =>
    rw [List.cons_append, List.sum_cons, List.sum_cons, ih]
    omega
def pw2 (n : Nat) : Int := ((2 ^ n : Nat) : Int)
theorem pw2_succ (n : Nat) : pw2 (n + 1) = pw2 n + pw2 n := by
  unfold pw2
  rw [Nat.pow_succ]
  omega
def kr (M : Nat) (D : Wd) (L : List Int) : Int := (L.map fun k => pw2 (M - (wat D k).length)).sum
theorem fill_end {n : Nat} {D0 : Wd} (h0 : ∀ z ∈ D0, z = []) (k : Int) : wat D0 k = [] := by
  unfold wat
  rw [List.getD_eq_getElem?_getD]
  cases hz : D0[k.toNat]? with
  | none => rfl
  | some z => exact h0 z (List.mem_of_getElem? hz)
theorem keep_ne {L : List Int} {o t k : Int} (h : k ∈ L.filter (keep o t)) : k ∈ L ∧ k ≠ o ∧ k ≠ t := by
  obtain ⟨h1, h2⟩ := List.mem_filter.mp h
  unfold keep at h2
  refine ⟨h1, fun e => ?_, fun e => ?_⟩
  · simp [e] at h2
  · simp [e] at h2
theorem kraft_fill {n : Nat} {D0 : Wd} (hD : D0.length = n + (n - 1)) (h0 : ∀ z ∈ D0, z = []) : ∀ {rest : List (Int × Int)} {i : Nat} {W L : List Int}, At4 n i W L rest → ∀ M, (∀ k ∈ L, (wat (fill (n + i) rest D0) k).length ≤ M) → kr M (fill (n + i) rest D0) L = pw2 M
  | [], i, W, L, h, M, hM => by
    obtain ⟨eL, _⟩ := at4_end h
    rw [eL]
    show ([pw2 (M - (wat D0 _).length)] : List Int).sum = pw2 M
    rw [fill_end (n := n) h0]
    simp
  | (o, t) :: rest, i, W, L, h, M, hM => by
    have S := step_w h hD
    obtain ⟨_, h6⟩ := at4_step h
    have kp := keep_perm h.1.nd S.o_in S.t_in S.ne
    have hb : (wat (fill (n + i + 1) rest D0) ((n + i : Nat) : Int)).length + 1 ≤ M := by
      have := hM o S.o_in
      rw [S.wo, List.length_append] at this
      exact this
    have ek : ∀ k ∈ L.filter (keep o t), wat (fill (n + i) ((o, t) :: rest) D0) k = wat (fill (n + i + 1) rest D0) k := fun k hk => by
      obtain ⟨k1, k2, k3⟩ := keep_ne hk
      exact S.wk k (h.1.rg k k1).1 k2 k3
    have ih := kraft_fill hD h0 h6 M (fun k hk => by
      rw [show n + (i + 1) = n + i + 1 by omega]
      rcases List.mem_append.mp hk with hk | hk
      · rw [← ek k hk]
        exact hM k (keep_ne hk).1
      · have e : k = ((n + i : Nat) : Int) := by simpa using hk
        rw [e]
        omega)
    rw [show n + (i + 1) = n + i + 1 by omega] at ih
    unfold kr at ih ⊢
    rw [List.map_append, sum_app] at ih
    rw [sum_perm (kp.map _), List.map_cons, List.map_cons, List.sum_cons, List.sum_cons, S.wo, S.wt, List.length_append, List.length_append]
    rw [List.map_congr_left (g := fun k => pw2 (M - (wat (fill (n + i + 1) rest D0) k).length)) (fun k hk => by rw [ek k hk])]
    have e1 : ([((n + i : Nat) : Int)].map fun k => pw2 (M - (wat (fill (n + i + 1) rest D0) k).length)).sum = pw2 (M - (wat (fill (n + i + 1) rest D0) ((n + i : Nat) : Int)).length) := by simp
    rw [e1] at ih
    generalize (wat (fill (n + i + 1) rest D0) ((n + i : Nat) : Int)).length = len at ih hb ⊢
    have e2 : M - len = (M - (len + 1)) + 1 := by omega
    rw [e2, pw2_succ] at ih
    show pw2 (M - (len + 1)) + (pw2 (M - (len + 1)) + _) = _
    omega
/-- a sum over the signs' numbers -/
theorem sum_range (f : Int → Int) (g : Nat → Int) (n : Nat) (h : ∀ k, k < n → f (k : Int) = g k) : (((List.range n).map fun k : Nat => (k : Int)).map f).sum = ((List.range n).map g).sum := by
  rw [List.map_map]
  congr 1
  refine List.map_congr_left fun k hk => ?_
  exact h k (List.mem_range.mp hk)
theorem map_codes {β : Type} {ns : List Int} (f : List Nat → β) : (codes ns).map f = (List.range ns.length).map fun k : Nat => f (wat (wordsAll ns) (k : Int)) := by
  refine List.ext_getElem? fun k => ?_
  by_cases hk : k < ns.length
  · rw [List.getElem?_map, code_at hk, List.getElem?_map, List.getElem?_range hk]
    rfl
  · rw [List.getElem?_eq_none (by rw [List.length_map, codes_len]; omega), List.getElem?_eq_none (by rw [List.length_map, List.length_range]; omega)]
theorem code_kraft {ns : List Int} (h1 : 1 ≤ ns.length) {M : Nat} (hM : ∀ w ∈ codes ns, w.length ≤ M) : ((codes ns).map fun w => pw2 (M - w.length)).sum = pw2 M := by
  rw [map_codes]
  have h := kraft_fill (n := ns.length) (D0 := List.replicate (ns.length + (ns.length - 1)) []) (by rw [List.length_replicate]) (fun z hz => (List.mem_replicate.mp hz).2) (at4_start h1) M (fun k hk => by
    obtain ⟨j, hj, rfl⟩ := List.mem_map.mp hk
    rw [Nat.add_zero]
    exact hM _ (List.mem_of_getElem? (code_at (List.mem_range.mp hj))))
  rw [Nat.add_zero] at h
  unfold kr at h
  rw [sum_range _ (fun k => pw2 (M - (wat (wordsAll ns) (k : Int)).length)) ns.length (fun k _ => rfl)] at h
  exact h
/-! what it costs -/
def grow : List Int → List (Int × Int) → List Int
  | W, [] => W
  | W, r :: rest => grow (W ++ [W.getD r.1.toNat 0 + W.getD r.2.toNat 0]) rest
theorem grow_pre : ∀ (rest : List (Int × Int)) (W : List Int), ∃ T, grow W rest = W ++ T ∧ T.length = rest.length
  | [], W => ⟨[], by simp [grow], rfl⟩
  | r :: rest, W => by
    obtain ⟨T, hT, hl⟩ := grow_pre rest (W ++ [W.getD r.1.toNat 0 + W.getD r.2.toNat 0])
    refine ⟨(W.getD r.1.toNat 0 + W.getD r.2.toNat 0) :: T, ?_, by simp [hl]⟩
    show grow _ rest = _
    rw [hT]
    simp
def cs (W : List Int) (D : Wd) (L : List Int) : Int := (L.map fun k => W.getD k.toNat 0 * ((wat D k).length : Int)).sum
theorem getD_old {W : List Int} {k w : Int} (h0 : 0 ≤ k) (h : k < (W.length : Int)) : (W ++ [w]).getD k.toNat 0 = W.getD k.toNat 0 := by
  rw [List.getD_eq_getElem?_getD, List.getD_eq_getElem?_getD, List.getElem?_append_left (by omega)]
theorem cost_fill {n : Nat} {D0 : Wd} (hD : D0.length = n + (n - 1)) (h0 : ∀ z ∈ D0, z = []) : ∀ {rest : List (Int × Int)} {i : Nat} {W L : List Int}, At4 n i W L rest → cs W (fill (n + i) rest D0) L = ((grow W rest).drop (n + i)).sum
  | [], i, W, L, h => by
    obtain ⟨eL, _⟩ := at4_end h
    rw [eL]
    show ([W.getD _ 0 * ((wat D0 _).length : Int)] : List Int).sum = (W.drop (n + i)).sum
    rw [fill_end (n := n) h0, List.drop_of_length_le (by rw [h.1.wl]; exact Nat.le_refl _)]
    simp
  | (o, t) :: rest, i, W, L, h => by
    have S := step_w h hD
    obtain ⟨_, h6⟩ := at4_step h
    have kp := keep_perm h.1.nd S.o_in S.t_in S.ne
    have wl := h.1.wl
    have ih := cost_fill hD h0 h6
    rw [show n + (i + 1) = n + i + 1 by omega] at ih
    obtain ⟨T, hT, _⟩ := grow_pre rest (W ++ [W.getD o.toNat 0 + W.getD t.toNat 0])
    have hg : grow W ((o, t) :: rest) = W ++ ((W.getD o.toNat 0 + W.getD t.toNat 0) :: T) := by
      show grow (W ++ [W.getD o.toNat 0 + W.getD t.toNat 0]) rest = _
      rw [hT]
      simp
    have hd1 : (grow W ((o, t) :: rest)).drop (n + i) = (W.getD o.toNat 0 + W.getD t.toNat 0) :: T := by
      rw [hg, ← wl, List.drop_left]
    have hd2 : (grow (W ++ [W.getD o.toNat 0 + W.getD t.toNat 0]) rest).drop (n + i + 1) = T := by
      rw [hT, show n + i + 1 = (W ++ [W.getD o.toNat 0 + W.getD t.toNat 0]).length by rw [List.length_append, wl]; rfl, List.drop_left]
    rw [hd2] at ih
    rw [hd1, List.sum_cons, ← ih]
    unfold cs
    rw [List.map_append, sum_app]
    rw [sum_perm (kp.map _), List.map_cons, List.map_cons, List.sum_cons, List.sum_cons, S.wo, S.wt, List.length_append, List.length_append]
    have ek : (L.filter (keep o t)).map (fun k => W.getD k.toNat 0 * ((wat (fill (n + i) ((o, t) :: rest) D0) k).length : Int)) = (L.filter (keep o t)).map (fun k => (W ++ [W.getD o.toNat 0 + W.getD t.toNat 0]).getD k.toNat 0 * ((wat (fill (n + i + 1) rest D0) k).length : Int)) := by
      refine List.map_congr_left fun k hk => ?_
      obtain ⟨k1, k2, k3⟩ := keep_ne hk
      obtain ⟨r1, r2⟩ := h.1.rg k k1
      rw [S.wk k r1 k2 k3, getD_old r1 r2]
    rw [ek]
    have en : ([((n + i : Nat) : Int)].map fun k => (W ++ [W.getD o.toNat 0 + W.getD t.toNat 0]).getD k.toNat 0 * ((wat (fill (n + i + 1) rest D0) k).length : Int)).sum = (W.getD o.toNat 0 + W.getD t.toNat 0) * ((wat (fill (n + i + 1) rest D0) ((n + i : Nat) : Int)).length : Int) := by
      have e : (W ++ [W.getD o.toNat 0 + W.getD t.toNat 0]).getD (((n + i : Nat) : Int)).toNat 0 = W.getD o.toNat 0 + W.getD t.toNat 0 := by
        rw [Int.toNat_natCast, ← wl, List.getD_eq_getElem?_getD, List.getElem?_append_right (Nat.le_refl _)]
        simp
      rw [List.map_cons, List.map_nil, List.sum_cons, List.sum_nil, e]
      omega
    rw [en]
    generalize (wat (fill (n + i + 1) rest D0) ((n + i : Nat) : Int)).length = len
    generalize W.getD o.toNat 0 = x
    generalize W.getD t.toNat 0 = y
    show x * ((len + 1 : Nat) : Int) + (y * ((len + 1 : Nat) : Int) + _) = _
    have e1 : ((len + 1 : Nat) : Int) = (len : Int) + 1 := by omega
    rw [e1, Int.mul_add, Int.mul_add, Int.add_mul, Int.mul_one, Int.mul_one]
    omega
/-- the cost: each share by its code's length -/
def cost (ns : List Int) : Int := (List.zipWith (fun s (w : List Nat) => s * (w.length : Int)) ns (codes ns)).sum
theorem zip_eq {ns : List Int} : List.zipWith (fun s (w : List Nat) => s * (w.length : Int)) ns (codes ns) = (List.range ns.length).map fun k : Nat => ns.getD k 0 * ((wat (wordsAll ns) (k : Int)).length : Int) := by
  refine List.ext_getElem? fun k => ?_
  by_cases hk : k < ns.length
  · rw [List.getElem?_zipWith, code_at hk, List.getElem?_map, List.getElem?_range hk, List.getElem?_eq_getElem hk]
    have e : ns.getD k 0 = ns[k] := by rw [List.getD_eq_getElem?_getD, List.getElem?_eq_getElem hk]; rfl
    show some (ns[k] * _) = some (ns.getD k 0 * _)
    rw [e]
  · rw [List.getElem?_eq_none (by rw [List.length_zipWith, codes_len]; omega), List.getElem?_eq_none (by rw [List.length_map, List.length_range]; omega)]
theorem cost_pairs {ns : List Int} (h1 : 1 ≤ ns.length) : cost ns = ((grow ns (made ns)).drop ns.length).sum := by
  have h := cost_fill (n := ns.length) (D0 := List.replicate (ns.length + (ns.length - 1)) []) (by rw [List.length_replicate]) (fun z hz => (List.mem_replicate.mp hz).2) (at4_start h1)
  rw [Nat.add_zero] at h
  rw [← h]
  unfold cost cs
  rw [zip_eq]
  refine (sum_range _ (fun k => ns.getD k 0 * ((wat (wordsAll ns) (k : Int)).length : Int)) ns.length fun k _ => ?_).symm
  rw [Int.toNat_natCast]
  rfl
end HF

set_option maxHeartbeats 4000000
/-! up to four signs: no row of lengths costs less -/
namespace HF
/-- the pairs' weights -/
def pw : Nat → List Nd → Int → List Int
  | f + 1, a :: b :: r, k => (a.1 + b.1) :: pw f (ins (a.1 + b.1, k) r) (k + 1)
  | _, _, _ => []
theorem pw_two (a b : Nd) (r : List Nd) (k : Int) : pw (a :: b :: r).length (a :: b :: r) k = (a.1 + b.1) :: pw (ins (a.1 + b.1, k) r).length (ins (a.1 + b.1, k) r) (k + 1) := by
  rw [ins_len]
  rfl
theorem grow_pw : ∀ (m : Nat) (fr : List Nd) (W : List Int), fr.length = m → (∀ x ∈ fr, 0 ≤ x.2 ∧ x.2 < (W.length : Int) ∧ W.getD x.2.toNat 0 = x.1) →
    (grow W (huff fr.length fr (W.length : Int))).drop W.length = pw fr.length fr (W.length : Int)
  | 0, fr, W, hl, h => by
    match fr, hl with
    | [], _ =>
      show (grow W []).drop W.length = []
      exact List.drop_of_length_le (Nat.le_refl _)
  | 1, fr, W, hl, h => by
    match fr, hl with
    | [x], _ =>
      show (grow W []).drop W.length = []
      exact List.drop_of_length_le (Nat.le_refl _)
  | m + 2, fr, W, hl, h => by
    match fr, hl, h with
    | a :: b :: r, hl, h =>
      obtain ⟨a1, a2, a3⟩ := h a List.mem_cons_self
      obtain ⟨b1, b2, b3⟩ := h b (List.mem_cons_of_mem _ List.mem_cons_self)
      rw [huff_two, pw_two]
      show (grow (W ++ [W.getD a.2.toNat 0 + W.getD b.2.toNat 0]) _).drop W.length = _
      rw [a3, b3]
      have hlen : (W ++ [a.1 + b.1]).length = W.length + 1 := by simp
      have ih := grow_pw (m + 1) (ins (a.1 + b.1, (W.length : Int)) r) (W ++ [a.1 + b.1]) (by rw [ins_len]; simpa using hl) (fun x hx => by
        rcases List.mem_cons.mp ((ins_perm _ _).mem_iff.mp hx) with e | hx
        · subst e
          refine ⟨by show (0 : Int) ≤ (W.length : Int); omega, by rw [hlen]; show (W.length : Int) < _; omega, ?_⟩
          show (W ++ [a.1 + b.1]).getD ((W.length : Int)).toNat 0 = a.1 + b.1
          rw [Int.toNat_natCast, List.getD_eq_getElem?_getD, List.getElem?_append_right (Nat.le_refl _)]
          simp
        · obtain ⟨x1, x2, x3⟩ := h x (List.mem_cons_of_mem _ (List.mem_cons_of_mem _ hx))
          exact ⟨x1, by rw [hlen]; omega, by rw [getD_old x1 x2]; exact x3⟩)
      rw [hlen] at ih
      have e1 : ((W.length + 1 : Nat) : Int) = (W.length : Int) + 1 := by omega
      rw [e1] at ih
      obtain ⟨T, hT, _⟩ := grow_pre (huff (ins (a.1 + b.1, (W.length : Int)) r).length (ins (a.1 + b.1, (W.length : Int)) r) ((W.length : Int) + 1)) (W ++ [a.1 + b.1])
      rw [← ih, hT]
      have d1 : (W ++ [a.1 + b.1] ++ T).drop W.length = (a.1 + b.1) :: T := by
        rw [List.append_assoc, List.drop_left]
        rfl
      have d2 : (W ++ [a.1 + b.1] ++ T).drop (W.length + 1) = T := by
        rw [← hlen, List.drop_left]
      rw [d1, d2]
theorem nodes_key {ns : List Int} {x : Nd} (h : x ∈ nodes ns) : 0 ≤ x.2 ∧ x.2 < (ns.length : Int) ∧ ns.getD x.2.toNat 0 = x.1 := by
  obtain ⟨i, hi⟩ := List.mem_iff_getElem?.mp h
  have hl := (List.getElem?_eq_some_iff.mp hi).1
  rw [nodes_len] at hl
  rw [nodes_at (List.getElem?_eq_getElem hl)] at hi
  cases hi
  refine ⟨by show (0 : Int) ≤ (i : Int); omega, by show (i : Int) < _; omega, ?_⟩
  show ns.getD ((i : Int)).toNat 0 = _
  rw [Int.toNat_natCast, List.getD_eq_getElem?_getD, List.getElem?_eq_getElem hl]
  rfl
theorem cost_pw {ns : List Int} (h1 : 1 ≤ ns.length) : cost ns = (pw (srt (nodes ns)).length (srt (nodes ns)) (ns.length : Int)).sum := by
  rw [cost_pairs h1, made_eq, grow_pw _ (srt (nodes ns)) ns rfl fun x hx => nodes_key ((srt_perm _).mem_iff.mp hx)]
theorem fst_sum (ns : List Int) : ((srt (nodes ns)).map Prod.fst).sum = ns.sum := by
  have h := ((srt_perm (nodes ns)).map Prod.fst)
  rw [sum_perm h]
  have e : (nodes ns).map Prod.fst = ns := by
    refine List.ext_getElem? fun i => ?_
    rw [List.getElem?_map]
    by_cases hi : i < ns.length
    · rw [nodes_at (List.getElem?_eq_getElem hi), List.getElem?_eq_getElem hi]
      rfl
    · rw [List.getElem?_eq_none (by rw [nodes_len]; omega), List.getElem?_eq_none (by omega)]
      rfl
  rw [e]
theorem two_least {A B : Nd} {r : List Nd} {p q : Nd} (hs : Sorted (A :: B :: r)) (hp : p ∈ A :: B :: r) (hq : q ∈ A :: B :: r) (hne : p ≠ q) : A.1 + B.1 ≤ p.1 + q.1 := by
  obtain ⟨s1, s2, s3⟩ := hs
  have hAB := s1 B List.mem_cons_self
  have geB : ∀ x ∈ B :: r, A.1 ≤ x.1 ∧ B.1 ≤ x.1 := fun x hx => by
    rcases List.mem_cons.mp hx with e | hx
    · rw [e]
      unfold nle at hAB
      omega
    · have h1 := s2 x hx
      unfold nle at hAB h1
      omega
  rcases List.mem_cons.mp hp with e | hp
  · rcases List.mem_cons.mp hq with e2 | hq
    · exact absurd (e.trans e2.symm) hne
    · have := geB q hq
      rw [e]
      omega
  · have h1 := geB p hp
    rcases List.mem_cons.mp hq with e2 | hq
    · rw [e2]
      omega
    · have := geB q hq
      omega
def tk (l : Int) : Int := if l = 1 then 4 else if l = 2 then 2 else 1
theorem pw3 (s C : Nd) (k : Int) : (pw 2 (ins s [C]) k).sum = s.1 + C.1 := by
  show (pw 2 (if nle s C then [s, C] else [C, s]) k).sum = _
  split
  · show ([s.1 + C.1] : List Int).sum = _
    simp
  · show ([C.1 + s.1] : List Int).sum = _
    simp
    omega
/-- what is known of three | four signs -/
theorem cost3 {a b c : Int} : ∃ s, cost [a, b, c] = s + (a + b + c) ∧ s ≤ a + b ∧ s ≤ a + c ∧ s ≤ b + c := by
  have hc := cost_pw (ns := [a, b, c]) (by simp)
  have hs := srt_sorted (nodes [a, b, c])
  have hm := fun (x : Nd) => (srt_perm (nodes [a, b, c])).mem_iff (a := x)
  have hsum := fst_sum [a, b, c]
  have hl : (srt (nodes [a, b, c])).length = 3 := by rw [srt_len, nodes_len]; rfl
  have hn : nodes [a, b, c] = [(a, 0), (b, 1), (c, 2)] := rfl
  generalize srt (nodes [a, b, c]) = fr at hc hs hm hsum hl
  match fr, hl with
  | [A, B, C], _ =>
    have m0 := (hm (a, 0)).mpr (by rw [hn]; simp)
    have m1 := (hm (b, 1)).mpr (by rw [hn]; simp)
    have m2 := (hm (c, 2)).mpr (by rw [hn]; simp)
    have e : (pw 3 [A, B, C] 3).sum = (A.1 + B.1) + ((A.1 + B.1) + C.1) := by
      show ((A.1 + B.1) :: pw 2 (ins (A.1 + B.1, 3) [C]) 4).sum = _
      rw [List.sum_cons, pw3]
    refine ⟨A.1 + B.1, ?_, two_least hs m0 m1 (fun z => by injection z with _ z; omega), two_least hs m0 m2 (fun z => by injection z with _ z; omega), two_least hs m1 m2 (fun z => by injection z with _ z; omega)⟩
    have h3 : (pw [A, B, C].length [A, B, C] (([a, b, c] : List Int).length : Int)).sum = (A.1 + B.1) + ((A.1 + B.1) + C.1) := e
    rw [hc, h3]
    simp at hsum
    omega
theorem cost2 {a b : Int} : cost [a, b] = a + b := by
  have hc := cost_pw (ns := [a, b]) (by simp)
  have hsum := fst_sum [a, b]
  have hl : (srt (nodes [a, b])).length = 2 := by rw [srt_len, nodes_len]; rfl
  generalize srt (nodes [a, b]) = fr at hc hsum hl
  match fr, hl with
  | [A, B], _ =>
    have h3 : (pw [A, B].length [A, B] (([a, b] : List Int).length : Int)).sum = A.1 + B.1 := by
      show ([A.1 + B.1] : List Int).sum = _
      simp
    rw [hc, h3]
    simp at hsum
    omega
theorem cost1 {a : Int} : cost [a] = 0 := by
  have hc := cost_pw (ns := [a]) (by simp)
  rw [hc]
  rfl
theorem cost4 {a b c d : Int} : ∃ s v, cost [a, b, c, d] = s + v + (a + b + c + d) ∧ s ≤ a + b ∧ s ≤ a + c ∧ s ≤ a + d ∧ s ≤ b + c ∧ s ≤ b + d ∧ s ≤ c + d ∧ s + v ≤ a + b + c + d ∧
    v ≤ a + b + c ∧ v ≤ a + b + d ∧ v ≤ a + c + d ∧ v ≤ b + c + d := by
  have hc := cost_pw (ns := [a, b, c, d]) (by simp)
  have hs := srt_sorted (nodes [a, b, c, d])
  have hm := fun (x : Nd) => (srt_perm (nodes [a, b, c, d])).mem_iff (a := x)
  have hsum := fst_sum [a, b, c, d]
  have hl : (srt (nodes [a, b, c, d])).length = 4 := by rw [srt_len, nodes_len]; rfl
  have hn : nodes [a, b, c, d] = [(a, 0), (b, 1), (c, 2), (d, 3)] := rfl
  generalize srt (nodes [a, b, c, d]) = fr at hc hs hm hsum hl
  match fr, hl with
  | [A, B, C, D], _ =>
    have m0 := (hm (a, 0)).mpr (by rw [hn]; simp)
    have m1 := (hm (b, 1)).mpr (by rw [hn]; simp)
    have m2 := (hm (c, 2)).mpr (by rw [hn]; simp)
    have m3 := (hm (d, 3)).mpr (by rw [hn]; simp)
    obtain ⟨s1, s2, s3, s4⟩ := id hs
    have hCD := s3 D List.mem_cons_self
    have hBC := s2 C List.mem_cons_self
    have hAB := s1 B List.mem_cons_self
    have leD : ∀ x ∈ [A, B, C, D], x.1 ≤ D.1 := fun x hx => by
      unfold nle at hCD hBC hAB
      simp at hx
      rcases hx with e | e | e | e <;> rw [e] <;> omega
    obtain ⟨v, hv, hv1, hv2⟩ : ∃ v, (pw 4 [A, B, C, D] 4).sum = (A.1 + B.1) + v + (A.1 + B.1 + C.1 + D.1) ∧ v ≤ (A.1 + B.1) + C.1 ∧ v ≤ C.1 + D.1 := by
      show ∃ v, ((A.1 + B.1) :: pw 3 (if nle (A.1 + B.1, 4) C then (A.1 + B.1, 4) :: [C, D] else C :: (if nle (A.1 + B.1, 4) D then [(A.1 + B.1, 4), D] else D :: [(A.1 + B.1, 4)])) 5).sum = _ ∧ _
      unfold nle at hCD
      split
      · rename_i h
        refine ⟨(A.1 + B.1) + C.1, ?_, by omega, ?_⟩
        · show ((A.1 + B.1) :: ((A.1 + B.1) + C.1) :: pw 2 (ins ((A.1 + B.1) + C.1, 5) [D]) 6).sum = _
          rw [List.sum_cons, List.sum_cons, pw3]
          dsimp only
          omega
        · unfold nle at h
          dsimp only at h
          omega
      · rename_i h
        split
        · rename_i h2
          refine ⟨C.1 + (A.1 + B.1), ?_, by omega, ?_⟩
          · show ((A.1 + B.1) :: (C.1 + (A.1 + B.1)) :: pw 2 (ins (C.1 + (A.1 + B.1), 5) [D]) 6).sum = _
            rw [List.sum_cons, List.sum_cons, pw3]
            dsimp only
            omega
          · unfold nle at h2
            dsimp only at h2
            omega
        · rename_i h2
          refine ⟨C.1 + D.1, ?_, ?_, by omega⟩
          · show ((A.1 + B.1) :: (C.1 + D.1) :: pw 2 (ins (C.1 + D.1, 5) [(A.1 + B.1, 4)]) 6).sum = _
            rw [List.sum_cons, List.sum_cons, pw3]
            dsimp only
            omega
          · unfold nle at h2
            dsimp only at h2
            omega
    have h4 : (pw [A, B, C, D].length [A, B, C, D] (([a, b, c, d] : List Int).length : Int)).sum = (A.1 + B.1) + v + (A.1 + B.1 + C.1 + D.1) := hv
    have t01 := two_least hs m0 m1 (fun z => by injection z with _ z; omega)
    have t02 := two_least hs m0 m2 (fun z => by injection z with _ z; omega)
    have t03 := two_least hs m0 m3 (fun z => by injection z with _ z; omega)
    have t12 := two_least hs m1 m2 (fun z => by injection z with _ z; omega)
    have t13 := two_least hs m1 m3 (fun z => by injection z with _ z; omega)
    have t23 := two_least hs m2 m3 (fun z => by injection z with _ z; omega)
    have l0 := leD _ m0
    have l1 := leD _ m1
    have l2 := leD _ m2
    have l3 := leD _ m3
    dsimp only at t01 t02 t03 t12 t13 t23 l0 l1 l2 l3
    simp at hsum
    refine ⟨A.1 + B.1, v, by rw [hc, h4]; omega, t01, t02, t03, t12, t13, t23, by omega, by omega, by omega, by omega, by omega⟩
/-- three signs, lengths 1 to 2 -/
theorem opt3 {a b c : Int} (ha : 1 ≤ a) (hb : 1 ≤ b) (hc : 1 ≤ c) {x y z : Int} (hx : x = 1 ∨ x = 2) (hy : y = 1 ∨ y = 2) (hz : z = 1 ∨ z = 2) (ht : tk x + tk y + tk z ≤ 8) : cost [a, b, c] ≤ a * x + b * y + c * z := by
  obtain ⟨s, h0, h1, h2, h3⟩ := cost3 (a := a) (b := b) (c := c)
  rw [h0]
  rcases hx with rfl | rfl <;> rcases hy with rfl | rfl <;> rcases hz with rfl | rfl <;> simp [tk] at ht <;> omega
theorem opt4 {a b c d : Int} (ha : 1 ≤ a) (hb : 1 ≤ b) (hc : 1 ≤ c) (hd : 1 ≤ d) {x y z w : Int} (hx : x = 1 ∨ x = 2 ∨ x = 3) (hy : y = 1 ∨ y = 2 ∨ y = 3) (hz : z = 1 ∨ z = 2 ∨ z = 3) (hw : w = 1 ∨ w = 2 ∨ w = 3) (ht : tk x + tk y + tk z + tk w ≤ 8) :
    cost [a, b, c, d] ≤ a * x + b * y + c * z + d * w := by
  obtain ⟨s, v, h0, h1, h2, h3, h4, h5, h6, h7, h8, h9, h10, h11⟩ := cost4 (a := a) (b := b) (c := c) (d := d)
  rw [h0]
  rcases hx with rfl | rfl | rfl <;> rcases hy with rfl | rfl | rfl <;> rcases hz with rfl | rfl | rfl <;> rcases hw with rfl | rfl | rfl <;> simp [tk] at ht <;> omega
end HF

set_option maxHeartbeats 4000000
namespace SP
open PySem L2 Evl
/-! pairs of ints compared -/
def gt2 (p q : Int × Int) : Bool := decide (q.1 < p.1 ∨ (q.1 = p.1 ∧ q.2 < p.2))
theorem lexLt2 (a b c d : Int) : HT.lexLt [a, b] [c, d] = decide (a < c ∨ (a = c ∧ b < d)) := by
  rw [HT.lexLt_cons, HT.lexLt_cons, HT.lexLt_nil_nil]
  by_cases h1 : a = c
  · rw [if_pos h1]
    by_cases h2 : b = d
    · rw [if_pos h2, decide_eq_false]
      omega
    · rw [if_neg h2]
      exact decide_eq_decide.mpr (by omega)
  · rw [if_neg h1]
    exact decide_eq_decide.mpr (by omega)
def rGt2 (K : PySem.W.Frag) : R2 := fun x y H Q => ∃ (a b : Addr) (p q : Int × Int), x = .ref a ∧ y = .ref b ∧ SqT K H a [.int p.1, .int p.2] ∧ SqT K H b [.int q.1, .int q.2] ∧ Q (.bl (gt2 p q)) H
theorem ints2 {p : Int × Int} {its : List Value} (r : Vals [.int p.1, .int p.2] its) : ∃ t u, its = [.int p.1 t, .int p.2 u] := by
  cases r with
  | cons r1 r2 =>
    cases r2 with
    | cons r2 r3 =>
      cases r3
      obtain ⟨t, rfl⟩ := r1
      obtain ⟨u, rfl⟩ := r2
      exact ⟨t, u, rfl⟩
theorem op_gtT {X : Cx} (hu : X.A.units < cLine) : OpR X (compareOp .Gt) (rGt2 X.K) := by
  intro pn st sg Hh x y v u Q J rx ry h
  obtain ⟨a, b, p, q, rfl, rfl, ha, hb, k⟩ := h
  cases rx
  cases ry
  obtain ⟨its, r1, p1, _⟩ := J.tuple ha
  obtain ⟨its2, r2, p2, _⟩ := J.tuple hb
  obtain ⟨t1, u1, rfl⟩ := ints2 r1
  obtain ⟨t2, u2, rfl⟩ := ints2 r2
  have two : ∀ j, j < 2 → j = 0 ∨ j = 1 := fun j h => by omega
  have beqd : ∀ m n : Int, (m == n) = decide (m = n) := fun m n => by
    by_cases z : m = n
    · rw [decide_eq_true z]
      exact beq_iff_eq.mpr z
    · rw [decide_eq_false z]
      exact beq_eq_false_iff_ne.mpr z
  have R := Ob.RcOp.tuples_gt (A := X.A) (s := st) (e := fun j => if j = 0 then decide (p.1 = q.1) else decide (p.2 = q.2)) (r := fun j => if j = 0 then decide (q.1 < p.1) else decide (q.2 < p.2)) p1 p2 hu (fun j h1 h2 => by
      rcases two j h1 with rfl | rfl
      · show SeqAt.EqAt _ _ (.int p.1 t1) (.int q.1 t2) (decide (p.1 = q.1))
        rw [← beqd]
        exact SeqAt.EqAt.int_int _ _ _ _
      · show SeqAt.EqAt _ _ (.int p.2 u1) (.int q.2 u2) (decide (p.2 = q.2))
        rw [← beqd]
        exact SeqAt.EqAt.int_int _ _ _ _) (fun j h1 h2 _ => by
      rcases two j h1 with rfl | rfl
      · exact Ob.RcOp.gt_int p.1 q.1 t1 t2
      · exact Ob.RcOp.gt_int p.2 q.2 u1 u2)
  refine R X.prog X.w X.xe (EP X pn sg Q) ⟨.bl _, Hh, J, rfl, ?_⟩
  have e : Ob.lexAt (fun j => if j = 0 then decide (p.1 = q.1) else decide (p.2 = q.2)) (fun j => if j = 0 then decide (q.1 < p.1) else decide (q.2 < p.2)) (decide (#[Value.int p.1 t1, Value.int p.2 u1].size > #[Value.int q.1 t2, Value.int q.2 u2].size)) 0 (min #[Value.int p.1 t1, Value.int p.2 u1].size #[Value.int q.1 t2, Value.int q.2 u2].size) = gt2 p q := by
    show (if decide (p.1 = q.1) = true then (if decide (p.2 = q.2) = true then decide (2 > 2) else decide (q.2 < p.2)) else decide (q.1 < p.1)) = gt2 p q
    unfold gt2
    by_cases h1 : p.1 = q.1
    · rw [decide_eq_true h1, if_pos rfl]
      by_cases h2 : p.2 = q.2
      · rw [decide_eq_true h2, if_pos rfl]
        exact decide_eq_decide.mpr (by omega)
      · rw [decide_eq_false h2, if_neg Bool.false_ne_true]
        exact decide_eq_decide.mpr (by omega)
    · rw [decide_eq_false h1, if_neg Bool.false_ne_true]
      exact decide_eq_decide.mpr (by omega)
  show Q (.bl (Ob.lexAt _ _ (decide (#[Value.int p.1 t1, Value.int p.2 u1].size > #[Value.int q.1 t2, Value.int q.2 u2].size)) 0 (min #[Value.int p.1 t1, Value.int p.2 u1].size #[Value.int q.1 t2, Value.int q.2 u2].size))) Hh
  rw [e]
  exact k
section
variable {K : PySem.W.Frag} {σ : L2.St} {H H' : Hp} {ta tb te : TE} {t : TT}
theorem ev_gt2 {p q : Int × Int} (ha : EvU ta σ H [.int p.1, .int p.2]) (hb : EvU tb σ H [.int q.1, .int q.2]) : Ev (tOp (rGt2 K) ta tb) σ H (.bl (gt2 p q)) :=
  ev_opUU ha hb fun a b H1 h1 h2 _ H2 e _ k => ⟨a, b, p, q, rfl, rfl, st_of (e _ _ h1), st_of (e _ _ h2), k H2 (Ex.refl _)⟩
theorem ev_lt2 {p q : Int × Int} (ha : EvU ta σ H [.int p.1, .int p.2]) (hb : EvU tb σ H [.int q.1, .int q.2]) : Ev (tOp (rLtT K) ta tb) σ H (.bl (gt2 q p)) :=
  ev_opUU ha hb fun a b H1 h1 h2 _ H2 e _ k => ⟨a, b, [p.1, p.2], [q.1, q.2], rfl, rfl, st_of (e _ _ h1), st_of (e _ _ h2), by
    rw [lexLt2]
    exact k H2 (Ex.refl _)⟩
/-- x in, not in a list of ints -/
theorem inV_int {ks : List Int} {k : Int} : inV (.int k) (ks.map V.int) = decide (k ∈ ks) := by
  unfold inV
  rw [List.any_map, Bool.eq_iff_iff, List.any_eq_true, decide_eq_true_eq]
  constructor
  · rintro ⟨x, hx, he⟩
    have : x = k := eq_of_beq (show (x == k) = true from he)
    rw [← this]
    exact hx
  · intro h
    exact ⟨k, h, show (k == k) = true by simp⟩
theorem flat_ints {ks : List Int} : (ks.map V.int).all flatV = true := by
  rw [List.all_map, List.all_eq_true]
  intro x _
  rfl
theorem rv_notInI {p : Addr} {ks : List Int} {k : Int} (h : SqL K H p (ks.map V.int)) : RV (rIn K true) (.int k) (.ref p) H (.bl (!decide (k ∈ ks))) := by
  have := rv_niL (K := K) (x := .int k) h rfl flat_ints
  rw [inV_int] at this
  exact this
/-- [x for x in xs if test], ints -/
theorem el_filtI {a : Addr} {ks : List Int} {tl : TE} {j : Nat} {vs : List Nat} (f : Int → Bool) (h : Ev tl σ H (.ref a)) (hx : SqL K H a (ks.map V.int)) (hz : ks.length ≤ 40000) (hw : ∀ x, wipe ((wipe σ vs).set j (some x)) vs = wipe σ vs)
    (ht : ∀ (x : Int) H1, Ex H H1 → x ∈ ks → EvT t ((wipe σ vs).set j (some (.int x))) H1 (f x)) (he : ∀ (x : Int) H1, Ex H H1 → Ev te ((wipe σ vs).set j (some (.int x))) H1 (.int x)) : EvL (tLc (iList K tl) (gName j) t te vs) σ H ((ks.filter f).map V.int) := fun H0 e Q q => h H0 e _ fun H1 e1 => ⟨a, rfl, ⟨_, ex_l (e.trans e1) hx⟩, fun Dl hD =>
  lc_list (xs := ks.map V.int) (fun i H' => H1 Dl = none ∧ Ex H1 H' ∧ H' Dl = some (.lst (((ks.take i).filter f).map V.int))) ⟨hD, Ex.new hD, upd_same⟩ (fun i H' _ p => ex_l ((e.trans e1).trans p.2.1) hx) (fun i x H' hi p => by
    obtain ⟨z, rfl, hz2⟩ := int_at hi
    obtain ⟨p1, p2, p3⟩ := p
    have e01 := e.trans e1
    refine ⟨hw _, ht z H1 e01 (List.mem_of_getElem? hz2) H' p2 _ fun H3 e3 => ?_⟩
    have tk : ks.take (i + 1) = ks.take i ++ [z] := by rw [List.take_add_one, hz2]; rfl
    cases hf : f z with
    | true =>
      rw [if_pos rfl]
      refine he z H1 e01 H3 (p2.trans e3) _ fun H4 e4 => ⟨_, e4 _ _ (e3 _ _ p3), sz_lt ?_, p1, Ex.mut ((p2.trans e3).trans e4) p1, ?_⟩
      · rw [List.length_map]
        have h1 := List.length_filter_le f (ks.take i)
        rw [List.length_take] at h1
        omega
      · rw [upd_same, tk, List.filter_append, List.map_append, List.filter_cons, if_pos hf]
        rfl
    | false =>
      rw [if_neg Bool.false_ne_true]
      refine ⟨p1, p2.trans e3, ?_⟩
      rw [tk, List.filter_append, List.filter_cons, if_neg (by rw [hf]; exact Bool.false_ne_true)]
      show H3 Dl = some (.lst ((((ks.take i).filter f) ++ []).map V.int))
      rw [List.append_nil]
      exact e3 _ _ p3) (fun H' p => by
    have p3 := p.2.2
    rw [List.take_of_length_le (by rw [List.length_map]; exact Nat.le_refl _)] at p3
    exact q Dl H' (fresh_back e1 p.1) (e1.trans p.2.1) p3)⟩
end
end SP

namespace SP
open PySem L2 Evl
def top (i : Nat) : Stmt := PySem.Challenge.pw_sharepack_k12_whole_no_lower_cost.main.body.getD i (.Pass ⟨0, 0, 0, 0⟩)
abbrev s_is_whole : Stmt := top 5
theorem sc_is_whole : FnScope ["value", "low", "high"] ["value", "low", "high"] (defScope s_is_whole) := ⟨rfl, rfl, rfl, by decide +kernel, rfl, by decide +kernel, by decide +kernel⟩
abbrev s_check_shares : Stmt := top 9
theorem sc_check_shares : FnScope ["shares", "share"] ["shares"] (defScope s_check_shares) := ⟨rfl, rfl, rfl, by decide +kernel, rfl, by decide +kernel, by decide +kernel⟩
abbrev s_pairs : Stmt := top 11
theorem sc_pairs : FnScope ["shares", "free", "made", "least", "first", "following", "other", "number", "share"] ["shares"] (defScope s_pairs) := ⟨rfl, rfl, rfl, by decide +kernel, rfl, by decide +kernel, by decide +kernel⟩
abbrev s_codes : Stmt := top 12
theorem sc_codes : FnScope ["shares", "made", "words", "at", "first", "other", "way"] ["shares"] (defScope s_codes) := ⟨rfl, rfl, rfl, by decide +kernel, rfl, by decide +kernel, by decide +kernel⟩
abbrev s_cost : Stmt := top 13
theorem sc_cost : FnScope ["shares", "words", "share", "word"] ["shares"] (defScope s_cost) := ⟨rfl, rfl, rfl, by decide +kernel, rfl, by decide +kernel, by decide +kernel⟩
abbrev s_whole : Stmt := top 15
theorem sc_whole : FnScope ["_law_found"] ["_law_found"] (defScope s_whole) := ⟨rfl, rfl, rfl, by decide +kernel, rfl, by decide +kernel, by decide +kernel⟩
abbrev s_cell_at : Stmt := top 16
theorem sc_cell_at : FnScope ["_law_script", "_law_k"] ["_law_script", "_law_k"] (defScope s_cell_at) := ⟨rfl, rfl, rfl, by decide +kernel, rfl, by decide +kernel, by decide +kernel⟩
abbrev s_share_by : Stmt := top 17
theorem sc_share_by : FnScope ["_law_cell"] ["_law_cell"] (defScope s_share_by) := ⟨rfl, rfl, rfl, by decide +kernel, rfl, by decide +kernel, by decide +kernel⟩
abbrev s_lengths : Stmt := top 18
theorem sc_lengths : FnScope ["_law_number", "_law_many", "_law_found", "_law_base", "_law_k"] ["_law_number", "_law_many"] (defScope s_lengths) := ⟨rfl, rfl, rfl, by decide +kernel, rfl, by decide +kernel, by decide +kernel⟩
abbrev s_rows : Stmt := top 19
theorem sc_rows : FnScope ["_law_many", "_law_found", "_law_k"] ["_law_many"] (defScope s_rows) := ⟨rfl, rfl, rfl, by decide +kernel, rfl, by decide +kernel, by decide +kernel⟩
abbrev s_law : Stmt := top 20
theorem sc_law : FnScope ["_law_script", "_law_many", "_law_shares", "_law_found", "_law_number", "_law_lengths_here", "_law_taken", "_law_price", "_law_k", "_law_length", "_law_share"] ["_law_script"] (defScope s_law) := ⟨rfl, rfl, rfl, by decide +kernel, rfl, by decide +kernel, by decide +kernel⟩
structure Txt (K : PySem.W.Frag) (mg : Str → Option Value) : Prop where
  b_bool : mg "bool" = none
  b_enumerate : mg "enumerate" = none
  b_int : mg "int" = none
  b_isinstance : mg "isinstance" = none
  b_len : mg "len" = none
  b_list : mg "list" = none
  b_max : mg "max" = none
  b_range : mg "range" = none
  b_reversed : mg "reversed" = none
  b_sum : mg "sum" = none
  b_zip : mg "zip" = none
  g_GREATEST_SHARE : ∃ u, mg "GREATEST_SHARE" = some u ∧ RelV (.int 1000000000000) u
  g_MOST_SHARES : ∃ u, mg "MOST_SHARES" = some u ∧ RelV (.int 40) u
  g_heapify : mg "heapify" = some (.builtin "_heapq.heapify")
  g_heappop : mg "heappop" = some (.builtin "_heapq.heappop")
  g_heappush : mg "heappush" = some (.builtin "_heapq.heappush")
section
variable {P : Program} {w : World} {K : PySem.W.Frag} {mg : Str → Option Value} {base : Heap}
def sp_isw : Sp := fun vs H Q _ => ∃ v lo hi : Int, vs = [.int v, .int lo, .int hi] ∧ lo ≤ v ∧ v ≤ hi ∧ RetV (.bl true) H Q
theorem ok_is_whole {f : Addr} {fd : FuncData} (T : Txt K mg) (F : Fun K "is_whole" "is_whole" s_is_whole f fd) : FnOk P w K mg base CX0 1 f fd ["value", "low", "high"] sp_isw := by
  refine F.ok sc_is_whole (fun vs H Q E h => by obtain ⟨v, lo, hi, rfl, _⟩ := h; rfl) (fun cdv A outer s H vs Q E hr h => ?_)
  obtain ⟨v, lo, hi, rfl, h1, h2, q⟩ := h
  refine ⟨_, (pss_cons (ps_if (PW.pt (pw_or (pt_val (pe_callB call_isi (by rfl) T.b_isinstance (by decide +kernel) (pa_cons (pv 0) (pa_cons (pe_bltn (v := .ty "bool") (by rfl) T.b_bool (by decide +kernel) rfl) pa_nil)))) (pw_or1 (pt_not (pt_val (pe_callB call_isi (by rfl) T.b_isinstance (by decide +kernel) (pa_cons (pv 0) (pa_cons (pe_bltn (v := .ty "int") (by rfl) T.b_int (by decide +kernel) rfl) pa_nil)))))))) (pss_one (ps_ret pe_bl)) pss_nil)
      (pss_one (ps_ret (pe_chain op_le op_le (pv 1) (pv 0) (pv 2))))), ?_⟩
  refine q_when (b := false) (et_or (a := false) (et_B (ev_isi (ev_var rfl) ev_c (fun _ _ => ty_int) (by decide +kernel))) fun _ => et_not (a := true) (et_B (ev_isi (ev_var rfl) ev_c (fun _ _ => ty_int) (by decide +kernel)))) (fun hx => nomatch hx) (fun _ H1 e1 => ?_)
  refine s_ret (ev_is (ev_chain (ev_var rfl) (ev_var rfl) (ev_var rfl)) (w := .bl true) ?_) fun H2 e2 => q H2 (e1.trans e2)
  rw [decide_eq_true h1, decide_eq_true h2]
  rfl
def Shares (ns : List Int) : Prop := 1 ≤ ns.length ∧ ns.length ≤ 40 ∧ ∀ n ∈ ns, 1 ≤ n ∧ n ≤ 1000000000000
def sp_chkS (K : PySem.W.Frag) : Sp := fun vs H Q _ => ∃ (a : Addr) (ns : List Int), vs = [.ref a] ∧ H a = some (.lst (ns.map V.int)) ∧ Shares ns ∧ RetV .non H Q
theorem spv_chkS {H : Hp} {a : Addr} {ns : List Int} (ha : H a = some (.lst (ns.map V.int))) (hs : Shares ns) : SpV (sp_chkS K) [.ref a] H .non :=
  spv fun H1 e1 Q E q => ⟨a, ns, rfl, e1 _ _ ha, hs, q⟩
theorem ok_check_shares {f : Addr} {fd : FuncData} (T : Txt K mg) (F : Fun K "check_shares" "check_shares" s_check_shares f fd) (C_is_whole : Cal P w K mg base "is_whole" ["value", "low", "high"] 1 sp_isw) : FnOk P w K mg base CX0 2 f fd ["shares"] (sp_chkS K) := by
  refine F.ok sc_check_shares (fun vs H Q E h => by obtain ⟨a, ns, rfl, _⟩ := h; rfl) (fun cdv A outer s H vs Q E hr h => ?_)
  obtain ⟨a, ns, rfl, ha, ⟨h1, h2, h3⟩, q⟩ := h
  refine ⟨_, (pss_cons (ps_if (PW.pt (pw_or (pt_not (pt_val (pe_callB call_isi (by rfl) T.b_isinstance (by decide +kernel) (pa_cons (pv 0) (pa_cons (pe_bltn (v := .ty "list") (by rfl) T.b_list (by decide +kernel) rfl) pa_nil))))) (pw_or1 (pt_not (pt_chain op_le op_le pe_int (pe_callB call_len_seq (by rfl) T.b_len PySem.boot_len (pa_cons (pv 0) pa_nil)) (pe_globX (by rfl) T.g_MOST_SHARES)))))) (pss_one ps_never) pss_nil)
      (pss_one (ps_for PassesOwn.never rfl (pi_list (pv 0)) (pg_name (i := 1) sc_check_shares.nd rfl (Or.inl rfl)) (pss_one (ps_if (pt_not (pt_val (pe_cal C_is_whole hr (by decide) (by rfl) (pa_cons (pv 1) (pa_cons pe_int (pa_cons (pe_globX (by rfl) T.g_GREATEST_SHARE) pa_nil)))))) (pss_one ps_never) pss_nil))))), ?_⟩
  refine q_when (b := false) (et_or (a := false) (et_not (a := true) (et_B (ev_isi (ev_var rfl) ev_c (fun _ e => ty_lst (e _ _ ha)) (by decide +kernel)))) fun _ => et_not (a := true) (et_is (et_test (ev_chain ev_c (ev_lenL (ev_var rfl) (sq_of ha)) ev_c)) ?_)) (fun hx => nomatch hx) (fun _ H1 e1 => ?_)
  · rw [List.length_map, decide_eq_true (by omega), decide_eq_true (by omega)]
    rfl
  refine s_forLn (ev_var rfl) (sq_of (e1 _ _ ha)) (fun i σ' H' => Ex H1 H' ∧ ∃ y1, σ' = [some (.ref a), y1]) (fun H2 e2 => ⟨e2, none, rfl⟩) (fun i σ' H' _ p => sq_of (p.1 _ _ (e1 _ _ ha))) (fun i x σ' H' hx p => ?_) (fun σ' H' p => ?_)
  · obtain ⟨e2, y1, rfl⟩ := p
    obtain ⟨z, rfl, hz⟩ := int_at hx
    obtain ⟨g1, g2⟩ := h3 z (List.mem_of_getElem? hz)
    refine s_when (b := false) (et_not (a := true) (et_B (ev_cal (ea_cons (ev_var rfl) (ea_cons ev_c (ea_cons ev_c ea_nil))) (spv fun H3 _ Q E q => ⟨z, 1, 1000000000000, rfl, g1, g2, q⟩)))) (fun hx => nomatch hx) (fun _ H3 e3 => ?_)
    exact ⟨e2.trans e3, _, rfl⟩
  · obtain ⟨e2, y1, rfl⟩ := p
    exact q H' (e1.trans e2)
def sp_pairs (K : PySem.W.Frag) : Sp := fun vs H Q _ => ∃ (a : Addr) (ns : List Int), vs = [.ref a] ∧ H a = some (.lst (ns.map V.int)) ∧ Shares ns ∧ RetR (HF.made ns) H Q
/-- where the loop stands -/
structure PairsAt (K : PySem.W.Frag) (ns : List Int) (H : Hp) (l q : Addr) (m : Nat) (H' : Hp) : Prop where
  ex : Ex H H'
  nl : H l = none
  nq : H q = none
  lq : l ≠ q
  st : ∃ (as : List Addr) (kk : HQ.Ky) (fr : List HF.Nd) (ts : List Addr) (rows : List (Int × Int)), H' l = some (.lst (as.map V.ref)) ∧ H' q = some (.lst (ts.map V.ref)) ∧ KeysT H' as kk ∧ HQ.Hq kk as ∧ (as.map kk).Perm fr ∧ HF.Sorted fr ∧ Rws H' ts rows ∧
    rows ++ HF.huff fr.length fr ((ns.length : Int) + (rows.length : Int)) = HF.made ns ∧ as.length + rows.length = ns.length ∧ m = as.length ∧ 1 ≤ as.length
theorem kle_nle {kk : HQ.Ky} {a b : Addr} : HQ.kle kk a b ↔ HF.nle (kk a) (kk b) := Iff.rfl
theorem ok_pairs {f : Addr} {fd : FuncData} (T : Txt K mg) (F : Fun K "pairs" "pairs" s_pairs f fd) (C_check_shares : Cal P w K mg base "check_shares" ["shares"] 2 (sp_chkS K)) : FnOk P w K mg base CX0 3 f fd ["shares"] (sp_pairs K) := by
  refine F.ok sc_pairs (fun vs H Q E h => by obtain ⟨a, ns, rfl, _⟩ := h; rfl) (fun cdv A outer s H vs Q E hr h => ?_)
  obtain ⟨a, ns, rfl, ha, hS, q⟩ := h
  obtain ⟨hS1, hS2, hS3⟩ := id hS
  refine ⟨_, (pss_cons (ps_expr (pe_cal C_check_shares hr (by decide) (by rfl) (pa_cons (pv 0) pa_nil)))
      (pss_cons (ps_setLc (i := 1) (own := [("number", 7), ("share", 8)]) (g := (gTup K 2 (gCons (gName 7) (gCons (gName 8) gNil)))) (tt := tYes) rfl sc_pairs.nd rfl rfl (sw_true rfl rfl rfl (by decide +kernel)) (pi_enum (by rfl) T.b_enumerate (pa_cons (pv 0) pa_nil)) (blkOk_by (N := ["shares", "free", "made", "least", "first", "following", "other", "number", "share"]) (sc := defScope s_pairs) (by decide +kernel)) (fun _ _ _ _ _ => (pg_tup rfl (pgs_cons (pg_name (i := 7) sc_pairs.nd rfl (Or.inl rfl)) (pgs_cons (pg_name (i := 8) sc_pairs.nd rfl (Or.inl rfl)) pgs_nil)))) (fun _ _ _ _ _ => pts_nil) (fun _ _ _ _ _ => (pe_tup (pa_cons (pv 8) (pa_cons (pv 7) pa_nil)))))
      (pss_cons (ps_expr (pe_callBfun (HQ.cr_heapify (HQ.hu2 hr)) (by rfl) T.g_heapify (pa_cons (pv 1) pa_nil)))
      (pss_cons (ps_set (i := 2) sc_pairs.nd rfl (Or.inl rfl) (pe_lst pa_nil))
      (pss_cons (ps_while PassesOwn.never (pt_cmpR op_gt (pe_callB call_len_seq (by rfl) T.b_len PySem.boot_len (pa_cons (pv 1) pa_nil)) pe_int (nomark _)) (pss_cons (ps_asg (pe_callBfun (HQ.cr_heappop (HQ.hu2 hr)) (by rfl) T.g_heappop (pa_cons (pv 1) pa_nil)) (pg_tup rfl (pgs_cons (pg_name (i := 3) sc_pairs.nd rfl (Or.inl rfl)) (pgs_cons (pg_name (i := 4) sc_pairs.nd rfl (Or.inl rfl)) pgs_nil))))
      (pss_cons (ps_asg (pe_callBfun (HQ.cr_heappop (HQ.hu2 hr)) (by rfl) T.g_heappop (pa_cons (pv 1) pa_nil)) (pg_tup rfl (pgs_cons (pg_name (i := 5) sc_pairs.nd rfl (Or.inl rfl)) (pgs_cons (pg_name (i := 6) sc_pairs.nd rfl (Or.inl rfl)) pgs_nil))))
      (pss_cons (ps_expr (pe_callBfun (HQ.cr_heappush (HQ.hu2 hr)) (by rfl) T.g_heappush (pa_cons (pv 1) (pa_cons (pe_tup (pa_cons (pe_op op_add (pv 3) (pv 5)) (pa_cons (pe_op op_add (pe_callB call_len_seq (by rfl) T.b_len PySem.boot_len (pa_cons (pv 0) pa_nil)) (pe_callB call_len_seq (by rfl) T.b_len PySem.boot_len (pa_cons (pv 2) pa_nil))) pa_nil))) pa_nil))))
      (pss_one (ps_expr (pe_bm PySem.F.plainAttrs_list PySem.F.slot_list_append PySem.F.type_list_append mt_append (pv 2) (pa_cons (pe_tup (pa_cons (pv 4) (pa_cons (pv 6) pa_nil))) pa_nil))))))))
      (pss_one (ps_ret (pv 2)))))))), ?_⟩
  refine q_drop (ev_cal (ea_cons (ev_var rfl) ea_nil) (spv_chkS ha hS)) fun H1 e1 => ?_
  have ha1 := e1 _ _ ha
  refine q_enumTups (fun k => [.int (ns.getD k 0), .int (k : Int)]) (ea_cons (ev_var rfl) ea_nil) (sq_of ha1) (by rw [List.length_map]; omega) (fun _ _ => rfl) (fun k x H2 e2 hx => ?_) fun l as H2 hl e2 hl2 hlen hts => ?_
  · obtain ⟨z, rfl, hz⟩ := int_at hx
    have : ns.getD k 0 = z := by rw [List.getD_eq_getElem?_getD, hz]; rfl
    rw [this]
    exact eu_tup (ea_cons (ev_var rfl) (ea_cons (ev_var rfl) ea_nil)) (by simp)
  rw [List.length_map] at hlen
  have e12 := e1.trans e2
  -- the keys
  obtain ⟨kk, hkk⟩ : ∃ kk : HQ.Ky, (∀ (i : Nat) t, as[i]? = some t → kk t = (ns.getD i 0, (i : Int))) := by
    refine ⟨fun t => (ns.getD (as.idxOf t) 0, ((as.idxOf t : Nat) : Int)), fun i t hi => ?_⟩
    have hnd : as.idxOf t = i := by
      have h1 : as.idxOf t < as.length := List.idxOf_lt_length_of_mem (List.mem_of_getElem? hi)
      have h2 : as[as.idxOf t]? = some t := by rw [List.getElem?_eq_getElem h1, List.getElem_idxOf]
      have h3 := (hts _ _ h2).symm.trans (hts _ _ hi)
      injection h3 with h3
      injection h3 with h3
      injection h3 with _ h3
      injection h3 with h3 _
      have := V.int.inj h3
      omega
    dsimp only
    rw [hnd]
  have hK : KeysT H2 as kk := fun t ht => by
    obtain ⟨i, hi⟩ := List.mem_iff_getElem?.mp ht
    rw [hkk i t hi]
    exact hts i t hi
  have hnodes : as.map kk = HF.nodes ns := by
    refine List.ext_getElem? fun i => ?_
    rw [List.getElem?_map]
    by_cases hi : i < ns.length
    · have h1 : as[i]? = some as[i] := List.getElem?_eq_getElem (by omega)
      have h2 : ns[i]? = some ns[i] := List.getElem?_eq_getElem hi
      rw [h1, HF.nodes_at h2, Option.map_some, hkk i _ h1, List.getD_eq_getElem?_getD, h2]
      rfl
    · rw [List.getElem?_eq_none (by omega), List.getElem?_eq_none (by rw [HF.nodes_len]; omega)]
      rfl
  -- heapify(free)
  refine ⟨.ref l, rfl, l, as, kk, rfl, hl2, hK.k, by omega, fun as1 hp1 hq1 => ?_⟩
  have e3 : Ex H (L2.upd H2 l (.lst (as1.map V.ref))) := Ex.mut e12 (fresh_back e1 hl)
  refine q_asgL (el_lst ea_nil (by decide)) fun q2 H3 hq2 e4 h3 => ?_
  have h3l := e4 _ _ (show L2.upd H2 l (.lst (as1.map V.ref)) l = some (.lst (as1.map V.ref)) from upd_same)
  have hlq : l ≠ q2 := fun e => by
    rw [e, upd_same] at hq2
    cases hq2
  refine q_while (fun m σ' H' => ∃ y1 y2 y3 y4 y5 y6, σ' = [some (.ref a), some (.ref l), some (.ref q2), y1, y2, y3, y4, y5, y6] ∧ PairsAt K ns H l q2 m H') as1.length ⟨_, _, _, _, _, _, rfl, e3.trans e4, fresh_back e1 hl, fresh_back e3 hq2, hlq,
    as1, kk, HF.srt (HF.nodes ns), [], [], h3l, h3, ((hK.upd hl2).sub fun t ht => hp1.mem_iff.mp ht).ex e4, hq1, ?_, HF.srt_sorted _, Rws.nil, ?_, ?_, rfl, ?_⟩ (fun m σ' H' hw => ?_)
  · rw [← hnodes]
    exact (hp1.map kk).trans (HF.srt_perm _).symm
  · rw [HF.made_eq]
    simp
  · rw [hp1.length_eq]
    simpa using hlen
  · rw [hp1.length_eq]
    omega
  obtain ⟨y1, y2, y3, y4, y5, y6, rfl, f1, f2, f3, f4, as, kk, fr, ts, rows, g1, g2, g3, g4, g5, g6, g7, g8, g9, rfl, g10⟩ := hw
  refine ⟨decide (1 < as.length), et_is (et_test (ev_op (ev_lenL (ev_var rfl) (sq_of g1)) ev_c rv_I0)) ?_, fun hb H4 e5 => ?_, fun hb H4 e5 => ?_⟩
  · rw [List.length_map]
    by_cases h : 1 < as.length
    · rw [decide_eq_true h, decide_eq_true (by omega)]
    · rw [decide_eq_false h, decide_eq_false (by omega)]
  · have hlt := of_decide_eq_true hb
    refine ⟨fun σ2 H2 => ∃ m', m' < as.length ∧ ∃ y1 y2 y3 y4 y5 y6, σ2 = [some (.ref a), some (.ref l), some (.ref q2), y1, y2, y3, y4, y5, y6] ∧ PairsAt K ns H l q2 m' H2, fun σ2 H2 h => h, ?_⟩
    have g1' := e5 _ _ g1
    refine q_pop rfl g1' (g3.ex e5) g4 (fun e => by rw [e] at hlt; simp at hlt) fun a1 as1 p1 m1 k1 s1 => ?_
    have l1 : as.length = as1.length + 1 := p1.length_eq
    obtain ⟨r1, rfl, o1, o2⟩ := HF.least_is (((p1.map kk).symm.trans g5)) (fun b hb => by
      obtain ⟨t, ht, rfl⟩ := List.mem_map.mp (show b ∈ (a1 :: as1).map kk from hb)
      exact m1 t (p1.mem_iff.mpr ht)) g6
    refine q_pop rfl upd_same s1 k1 (fun e => by rw [e] at l1; simp at l1; omega) fun a2 as2 p2 m2 k2 s2 => ?_
    have l2 : as1.length = as2.length + 1 := p2.length_eq
    obtain ⟨r2, rfl, o3, o4⟩ := HF.least_is (((p2.map kk).symm.trans o1)) (fun b hb => by
      obtain ⟨t, ht, rfl⟩ := List.mem_map.mp (show b ∈ (a2 :: as2).map kk from hb)
      exact m2 t (p2.mem_iff.mpr ht)) o2
    rw [upd_upd] at s2 ⊢
    have hql : q2 ≠ l := fun e => f4 e.symm
    have u1 : L2.upd H4 l (.lst (as2.map V.ref)) q2 = some (.lst (ts.map V.ref)) := by
      rw [upd_ne hql]
      exact e5 _ _ g2
    have ua : L2.upd H4 l (.lst (as2.map V.ref)) a = some (.lst (ns.map V.int)) := by
      rw [upd_ne (ne_of_none ha f2)]
      exact e5 _ _ (f1 _ _ ha)
    have gl : (ts.map V.ref).length = rows.length := by rw [List.length_map, g7.1]
    have f10 : Ex H (L2.upd H4 l (.lst (as2.map V.ref))) := Ex.mut (f1.trans e5) f2
    have gR : Rws (L2.upd H4 l (.lst (as2.map V.ref))) ts rows := (g7.ex e5).upd g1'
    refine q_push (w := (kk a1).1 + (kk a2).1) (k := (ns.length : Int) + (rows.length : Int)) rfl upd_same (eu_tup (ea_cons (ev_op (ev_var rfl) (ev_var rfl) rv_I0) (ea_cons (ev_is (ev_op (ev_lenL (ev_var rfl) (sq_of ua)) (ev_lenL (ev_var rfl) (sq_of u1)) rv_I0) (by rw [List.length_map, gl])) ea_nil)) (by simp)) s2 k2 (by omega) fun x H5 as3 hx e6 p3 hx2 k3 s3 => ?_
    have u2 : L2.upd H5 l (.lst (as3.map V.ref)) q2 = some (.lst (ts.map V.ref)) := by
      rw [upd_ne hql]
      exact e6 _ _ u1
    have f11 : Ex H (L2.upd H5 l (.lst (as3.map V.ref))) := Ex.mut (f10.trans e6) f2
    have gR2 : Rws (L2.upd H5 l (.lst (as3.map V.ref))) ts rows := (gR.ex e6).upd (e6 _ _ upd_same)
    refine s_appU u2 (ev_var rfl) (eu_tup (ea_cons (ev_var rfl) (ea_cons (ev_var rfl) ea_nil)) (by simp)) (by rw [gl]; omega) fun t H6 ht e7 h7 => ?_
    have l3 : as3.length = as2.length + 1 := p3.length_eq
    refine ⟨as3.length, by omega, _, _, _, _, _, _, rfl, Ex.mut (f11.trans e7) f3, f2, f3, f4, as3, kkx kk x _, HF.ins ((kk a1).1 + (kk a2).1, (ns.length : Int) + (rows.length : Int)) r2, ts ++ [t], rows ++ [((kk a1).2, (kk a2).2)], ?_, ?_, (s3.ex e7).upd (e7 _ _ u2), k3, ?_, HF.ins_sorted _ o4, ?_, ?_, ?_, rfl, by omega⟩
    · rw [upd_ne f4]
      exact e7 _ _ upd_same
    · rw [upd_same, List.map_append]
      rfl
    · refine ((p3.map _).trans ?_).trans (HF.ins_perm _ _).symm
      rw [List.map_cons, kkx_x]
      refine List.Perm.cons _ ?_
      rw [List.map_congr_left hx2]
      exact o3
    · refine Rws.snoc ((gR2.ex e7).upd (e7 _ _ u2)) ?_
      rw [upd_ne (ne_of h7 (e7 _ _ u2) fun z => nomatch z)]
      exact h7
    · rw [← g8, HF.huff_two, List.append_assoc, List.length_append]
      show rows ++ ([((kk a1).2, (kk a2).2)] ++ _) = rows ++ ((kk a1).2, (kk a2).2) :: _
      congr 2
    · rw [List.length_append]
      simp
      omega
  · have hle := of_decide_eq_false hb
    have hfr : fr.length ≤ 1 := by rw [← g5.length_eq, List.length_map]; omega
    rw [HF.huff_end hfr, List.append_nil] at g8
    exact s_ret (ev_var rfl) fun H5 e6 => q q2 ts H5 f3 ((f1.trans e5).trans e6) (e6 _ _ (e5 _ _ g2)) (by rw [← g8]; exact (g7.ex e5).ex e6)
theorem er_pairs {σ : L2.St} {H : Hp} {ta : TA} {a : Addr} {ns : List Int} {E : XK} (h : EvA ta σ H [.ref a]) (ha : H a = some (.lst (ns.map V.int))) (hS : Shares ns) :
    ∀ H1, Ex H H1 → ∀ Q : VK, (∀ (p : Addr) (ts : List Addr) H2, H1 p = none → Ex H1 H2 → H2 p = some (.lst (ts.map V.ref)) → Rws H2 ts (HF.made ns) → Q (.ref p) H2) → tCall (sp_pairs K) [] E ta σ H1 Q := fun H1 e1 Q q =>
  h H1 e1 _ fun H2 e2 => ⟨a, ns, rfl, (e1.trans e2) _ _ ha, hS, fun p ts H3 hp e3 h3 hR => q p ts H3 (fresh_back e2 hp) (e2.trans e3) h3 hR⟩
theorem q_pairs {σ : L2.St} {H : Hp} {ta : TA} {a : Addr} {ns : List Int} {E : XK} {tz : TS} {D : Ends} {i : Nat} (h : EvA ta σ H [.ref a]) (ha : H a = some (.lst (ns.map V.int))) (hS : Shares ns)
    (k : ∀ (p : Addr) (ts : List Addr) H1, H p = none → Ex H H1 → H1 p = some (.lst (ts.map V.ref)) → Rws H1 ts (HF.made ns) → tz D (σ.set i (some (.ref p))) H1) : tSeq (tAsg (tCall (sp_pairs K) [] E ta) (gName i)) tz D σ H :=
  er_pairs h ha hS H (Ex.refl H) _ fun p ts H1 hp e1 h1 hR => k p ts H1 hp e1 h1 hR
theorem q_pairsN {σ : L2.St} {H : Hp} {te : TE} {ns : List Int} {E : XK} {tz : TS} {D : Ends} {i : Nat} (h : EvL te σ H (ns.map V.int)) (hS : Shares ns)
    (k : ∀ (p : Addr) (ts : List Addr) H1, H p = none → Ex H H1 → H1 p = some (.lst (ts.map V.ref)) → Rws H1 ts (HF.made ns) → tz D (σ.set i (some (.ref p))) H1) : tSeq (tAsg (tCall (sp_pairs K) [] E (tCons te tNil)) (gName i)) tz D σ H :=
  h H (Ex.refl H) _ fun r H1 hr1 e1 h1 => ⟨r, ns, rfl, h1, hS, fun p ts H3 hp e3 h3 hR => k p ts H3 (fresh_back e1 hp) (e1.trans e3) h3 hR⟩
def sp_codes (K : PySem.W.Frag) : Sp := fun vs H Q _ => ∃ (a : Addr) (ns : List Int), vs = [.ref a] ∧ H a = some (.lst (ns.map V.int)) ∧ Shares ns ∧ RetL (wv (HF.codes ns)) H Q
theorem spl_codes {H : Hp} {a : Addr} {ns : List Int} (ha : H a = some (.lst (ns.map V.int))) (hS : Shares ns) : SpL (sp_codes K) [.ref a] H (wv (HF.codes ns)) := spl fun H1 e1 Q E q => ⟨a, ns, rfl, e1 _ _ ha, hS, q⟩
theorem str0 : V.str (PySem.Str.ofString "") = V.str (tx []) := congrArg V.str (by decide +kernel)
theorem strB0 : PySem.Str.ofString "0" = tx [48] := by decide +kernel
theorem strB1 : PySem.Str.ofString "1" = tx [49] := by decide +kernel
theorem ok_codes {f : Addr} {fd : FuncData} (T : Txt K mg) (F : Fun K "codes" "codes" s_codes f fd) (C_pairs : Cal P w K mg base "pairs" ["shares"] 3 (sp_pairs K)) : FnOk P w K mg base CX0 4 f fd ["shares"] (sp_codes K) := by
  refine F.ok sc_codes (fun vs H Q E h => by obtain ⟨a, ns, rfl, _⟩ := h; rfl) (fun cdv A outer s H vs Q E hr h => ?_)
  obtain ⟨a, ns, rfl, ha, hS, q⟩ := h
  obtain ⟨hS1, hS2, hS3⟩ := id hS
  refine ⟨_, (pss_cons (ps_set (i := 1) sc_codes.nd rfl (Or.inl rfl) (pe_cal C_pairs hr (by decide) (by rfl) (pa_cons (pv 0) pa_nil)))
      (pss_cons (ps_set (i := 2) sc_codes.nd rfl (Or.inl rfl) (pe_op op_rep (pe_lst (pa_cons pe_str pa_nil)) (pe_op op_add (pe_callB call_len_seq (by rfl) T.b_len PySem.boot_len (pa_cons (pv 0) pa_nil)) (pe_callB call_len_seq (by rfl) T.b_len PySem.boot_len (pa_cons (pv 1) pa_nil)))))
      (pss_cons (ps_for PassesOwn.never rfl (pi_revR (by rfl) T.b_reversed (prg_1 (by rfl) T.b_range (pe_callB call_len_seq (by rfl) T.b_len PySem.boot_len (pa_cons (pv 1) pa_nil)))) (pg_name (i := 3) sc_codes.nd rfl (Or.inl rfl)) (pss_cons (ps_asg (pe_ix ix_list (pv 1) (pv 3) (fun _ _ => rfl)) (pg_tup rfl (pgs_cons (pg_name (i := 4) sc_codes.nd rfl (Or.inl rfl)) (pgs_cons (pg_name (i := 5) sc_codes.nd rfl (Or.inl rfl)) pgs_nil))))
      (pss_cons (ps_set (i := 6) sc_codes.nd rfl (Or.inl rfl) (pe_ix ix_list (pv 2) (pe_op op_add (pe_callB call_len_seq (by rfl) T.b_len PySem.boot_len (pa_cons (pv 0) pa_nil)) (pv 3)) (fun _ _ => rfl)))
      (pss_cons (ps_asg (pe_op op_add_str (pv 6) pe_str) (pg_sub (pv 2) (pv 4) set_list))
      (pss_one (ps_asg (pe_op op_add_str (pv 6) pe_str) (pg_sub (pv 2) (pv 5) set_list)))))))
      (pss_one (ps_ret (pe_slice sl_list (pv 2) po_none (po_some (pe_callB call_len_seq (by rfl) T.b_len PySem.boot_len (pa_cons (pv 0) pa_nil))))))))), ?_⟩
  refine q_pairs (ea_cons (ev_var rfl) ea_nil) ha hS fun p ts H1 hp e1 h1 hR => ?_
  have ha1 := e1 _ _ ha
  have hml := HF.made_len ns
  have htl : (ts.map V.ref).length = ns.length - 1 := by rw [List.length_map, hR.1, hml]
  have hal : (ns.map V.int).length = ns.length := by rw [List.length_map]
  refine q_asgL (el_repE (n := ns.length + (ns.length - 1)) (el_lst (ea_cons (ev_is ev_c str0) ea_nil) (by simp)) (ev_is (ev_op (ev_lenL (ev_var rfl) (sq_of ha1)) (ev_lenL (ev_var rfl) (sq_of h1)) rv_I0) (by rw [hal, htl]; rfl)) (by omega)) fun l H2 hl e2 h2 => ?_
  have D0l : (List.replicate (ns.length + (ns.length - 1)) ([] : List Nat)).length = ns.length + (ns.length - 1) := List.length_replicate
  have e12 := e1.trans e2
  have a4 := HF.at4_start hS1
  refine q_forRev (n := ns.length - 1) (ev_is (ev_lenL (ev_var rfl) (sq_of (e2 _ _ h1))) (by rw [htl])) (by omega)
    (fun i σ' H' => ∃ y1 y2 y3 y4, σ' = [some (.ref a), some (.ref p), some (.ref l), y1, y2, y3, y4] ∧ Ex H1 H' ∧ H' l = some (.lst (wv (HF.fill (ns.length + (ns.length - 1 - i)) ((HF.made ns).drop (ns.length - 1 - i)) (List.replicate (ns.length + (ns.length - 1)) [])))))
    (fun H3 e3 => ⟨_, _, _, _, rfl, e2.trans e3, ?_⟩) (fun i σ' H' hi w => ?_) (fun σ' H' w => ?_)
  · rw [List.drop_of_length_le (by rw [hml]; omega)]
    exact e3 _ _ h2
  · obtain ⟨y1, y2, y3, y4, rfl, f1, f2⟩ := w
    have hj : ns.length - 1 - i = (ns.length - 1 - 1 - i) + 1 := by omega
    rw [hj] at f2
    generalize ns.length - 1 - 1 - i = j at hj f2 ⊢
    have hjl : j < (HF.made ns).length := by rw [hml]; omega
    have hrow : (HF.made ns)[j]? = some (HF.made ns)[j] := List.getElem?_eq_getElem hjl
    obtain ⟨rg1, rg2, rg3, rg4⟩ := HF.made_row hS1 hrow
    have hnx : ns.length - 1 - (i + 1) = j := by omega
    rw [hnx, List.drop_eq_getElem_cons hjl]
    generalize (HF.made ns)[j] = r at hrow rg1 rg2 rg3 rg4 ⊢
    generalize hD : HF.fill (ns.length + (j + 1)) ((HF.made ns).drop (j + 1)) (List.replicate (ns.length + (ns.length - 1)) []) = D at f2
    have hDl : D.length = ns.length + (ns.length - 1) := by rw [← hD, HF.fill_len, D0l]
    have hnew : HF.fill (ns.length + j) (r :: (HF.made ns).drop (j + 1)) (List.replicate (ns.length + (ns.length - 1)) []) = HF.put D (ns.length + j) r := by
      rw [← hD]
      rfl
    rw [hnew]
    have hp' := f1 _ _ h1
    refine q_row (r := r) (ev_var rfl) (ev_var rfl) (sq_of hp') (hR.ex f1) hrow fun H3 e3 => ?_
    have l3 := e3 _ _ f2
    have b0 : ((ns.length + j : Nat) : Int) < (D.length : Int) := by rw [hDl]; omega
    have a3 := e3 _ _ (f1 _ _ ha1)
    refine q_asg (ev_op (ev_var rfl) (ev_is (ev_op (ev_lenL (ev_var rfl) (sq_of a3)) (ev_var rfl) rv_I0) (w := .int ((ns.length + j : Nat) : Int)) (by rw [hal]; rfl)) (rv_ixL (sq_of l3) (wv_at (by omega) b0))) fun H4 e4 => ?_
    have bl : (HF.wat D ((ns.length + j : Nat) : Int)).length + 1 ≤ sizeLine := by
      obtain ⟨W, L, h4⟩ : ∃ W L, HF.At4 ns.length (j + 1) W L ((HF.made ns).drop (j + 1)) := HF.at4_drop hS1 (by rw [hml]; omega)
      have := (HF.fill_bits D0l (fun z hz => (List.mem_replicate.mp hz).2) h4 ((ns.length + j : Nat) : Int) (by omega)).2
      rw [hD, List.length_drop, hml] at this
      exact sz_of (by omega)
    have l4 := e4 _ _ l3
    refine q_setL (j := r.1.toNat) (v := .str (tx (HF.wat D ((ns.length + j : Nat) : Int) ++ [48]))) l4 (ev_is (ev_op (ev_var rfl) (ev_is ev_c (congrArg V.str strB0)) (rv_addS (by rw [tx_len, tx_len]; exact bl))) (by rw [tx_app])) (ev_var rfl) (ev_is (ev_var rfl) (by rw [show ((r.1.toNat : Nat) : Int) = r.1 by omega])) (by rw [wv_len, hDl]; omega) fun H5 e5 => ?_
    rw [wv_set]
    refine s_setL (j := r.2.toNat) (v := .str (tx (HF.wat D ((ns.length + j : Nat) : Int) ++ [49]))) upd_same (ev_is (ev_op (ev_var rfl) (ev_is ev_c (congrArg V.str strB1)) (rv_addS (by rw [tx_len, tx_len]; exact bl))) (by rw [tx_app])) (ev_var rfl) (ev_is (ev_var rfl) (by rw [show ((r.2.toNat : Nat) : Int) = r.2 by omega])) (by rw [wv_len, List.length_set, hDl]; omega) fun H6 e6 => ?_
    rw [wv_set]
    exact ⟨_, _, _, _, rfl, Ex.mut ((Ex.mut (((f1.trans e3).trans e4).trans e5) hl).trans e6) hl, upd_same⟩
  · obtain ⟨y1, y2, y3, y4, rfl, f1, f2⟩ := w
    rw [Nat.sub_self, List.drop_zero, Nat.add_zero] at f2
    have ec : (wv (HF.fill ns.length (HF.made ns) (List.replicate (ns.length + (ns.length - 1)) []))).take ns.length = wv (HF.codes ns) := by
      unfold HF.codes HF.wordsAll wv
      rw [List.map_take]
    refine s_retL (el_to (n := ns.length) (ev_var rfl) (ev_is (ev_lenL (ev_var rfl) (sq_of (f1 _ _ ha1))) (by rw [hal])) (sq_of f2)) fun r H3 hr3 e3 h3 => q r H3 (fresh_back (e1.trans f1) hr3) ((e1.trans f1).trans e3) ?_
    rw [ec] at h3
    exact h3
theorem wv_get {D : HF.Wd} {k : Nat} {x : V} (h : (wv D)[k]? = some x) : ∃ w, x = V.str (tx w) ∧ D[k]? = some w := by
  unfold wv at h
  rw [List.getElem?_map] at h
  cases hz : D[k]? with
  | none => rw [hz] at h; cases h
  | some w => rw [hz] at h; exact ⟨w, (Option.some.inj h).symm, rfl⟩
def costL (ns : List Int) : List Int := List.zipWith (fun s (w : List Nat) => s * (w.length : Int)) ns (HF.codes ns)
theorem costL_len (ns : List Int) : (costL ns).length = ns.length := by
  unfold costL
  rw [List.length_zipWith, HF.codes_len, Nat.min_self]
theorem costL_at {ns : List Int} {k : Nat} {s : Int} {w : List Nat} (h1 : ns[k]? = some s) (h2 : (HF.codes ns)[k]? = some w) : (costL ns)[k]? = some (s * (w.length : Int)) := by
  unfold costL
  rw [List.getElem?_zipWith, h1, h2]
theorem el_costs {σ : L2.St} {H : Hp} {i j : Nat} {vs : List Nat} {ta : TA} {te : TE} {a b : Addr} {ns : List Int} (hS : Shares ns) (h : EvA ta σ H [.ref a, .ref b]) (ha : SqL K H a (ns.map V.int)) (hb : SqL K H b (wv (HF.codes ns))) (hw : ∀ x y, wipe (((wipe σ vs).set i (some x)).set j (some y)) vs = wipe σ vs)
    (he : ∀ (s : Int) (w : List Nat) H1, Ex H H1 → CMul s (w.length : Int) → w.length ≤ 100000 → Ev te (((wipe σ vs).set i (some (.int s))).set j (some (.str (tx w)))) H1 (.int (s * (w.length : Int)))) :
    EvL (tLc (iZip K ta) (gTup K 2 (gCons (gName i) (gCons (gName j) gNil))) tYes te vs) σ H ((costL ns).map V.int) := by
  have cl := HF.codes_len ns
  refine el_mapZ ((costL ns).map V.int) h ha hb (by rw [List.length_map, wv_len, cl]) (by rw [List.length_map, List.length_map, costL_len]) (by rw [List.length_map]; have := hS.2.1; omega) hw fun k x z y H1 e1 h1 h2 h3 => ?_
  obtain ⟨s, rfl, g1⟩ := int_at h1
  obtain ⟨w, rfl, g2⟩ := wv_get h2
  obtain ⟨y, rfl, g3⟩ := int_at h3
  rw [costL_at g1 g2] at g3
  cases g3
  have hb := (HF.code_bits hS.1 g2).2
  have hs := hS.2.2 s (List.mem_of_getElem? g1)
  have := hS.2.1
  exact he s w H1 e1 (.inl ⟨by omega, by omega⟩) (by omega)
def sp_cost (K : PySem.W.Frag) : Sp := fun vs H Q _ => ∃ (a : Addr) (ns : List Int), vs = [.ref a] ∧ H a = some (.lst (ns.map V.int)) ∧ Shares ns ∧ RetV (.int (HF.cost ns)) H Q
theorem ok_cost {f : Addr} {fd : FuncData} (T : Txt K mg) (F : Fun K "cost" "cost" s_cost f fd) (C_codes : Cal P w K mg base "codes" ["shares"] 4 (sp_codes K)) : FnOk P w K mg base CX0 5 f fd ["shares"] (sp_cost K) := by
  refine F.ok sc_cost (fun vs H Q E h => by obtain ⟨a, ns, rfl, _⟩ := h; rfl) (fun cdv A outer s H vs Q E hr h => ?_)
  obtain ⟨a, ns, rfl, ha, hS, q⟩ := h
  refine ⟨_, (pss_cons (ps_set (i := 1) sc_cost.nd rfl (Or.inl rfl) (pe_cal C_codes hr (by decide) (by rfl) (pa_cons (pv 0) pa_nil)))
      (pss_one (ps_ret (pe_callB (cr_sum rfl) (by rfl) T.b_sum (by decide +kernel) (pa_cons (pe_lc (own := [("share", 2), ("word", 3)]) (g := (gTup K 2 (gCons (gName 2) (gCons (gName 3) gNil)))) (tt := tYes) rfl sc_cost.nd (pi_zip (by rfl) T.b_zip (pa_cons (pv 0) (pa_cons (pv 1) pa_nil))) (blkOk_by (N := ["shares", "words", "share", "word"]) (sc := defScope s_cost) (by decide +kernel)) (fun _ _ _ _ _ => (pg_tup rfl (pgs_cons (pg_name (i := 2) sc_cost.nd rfl (Or.inl rfl)) (pgs_cons (pg_name (i := 3) sc_cost.nd rfl (Or.inl rfl)) pgs_nil)))) (fun _ _ _ _ _ => pts_nil) (fun _ _ _ _ _ => (pe_op op_mul (pv 2) (pe_callB call_len_str (by rfl) T.b_len PySem.boot_len (pa_cons (pv 3) pa_nil))))) pa_nil))))), ?_⟩
  refine q_asgL (el_cal (ea_cons (ev_var rfl) ea_nil) (spl_codes ha hS)) fun w H1 hw e1 h1 => ?_
  refine s_ret (ev_sumN (ns := costL ns) (el_costs hS (ea_cons (ev_var rfl) (ea_cons (ev_var rfl) ea_nil)) (sq_of (e1 _ _ ha)) (sq_of h1) (fun _ _ => rfl) fun s w H2 e2 hm hl => ev_op (ev_var rfl) (ev_is (ev_lenZ (ev_var rfl) (by rw [tx_len]; exact sz_of hl)) (by rw [tx_len])) (rv_mul hm))) fun H2 e2 => q H2 (e1.trans e2)
def sp_law (K : PySem.W.Frag) : Sp := fun vs H Q _ => ∃ (a : Addr) (ns : List Int), vs = [.ref a] ∧ SqL K H a (ns.map V.int) ∧ ns.length ≤ 63 ∧ RetV (.bl true) H Q
theorem law_start {H : Hp} {a : Addr} {ns : List Int} (hl : ns.length ≤ 63) (hS : SqL K H a (ns.map V.int)) : sp_law K [.ref a] H (fun v _ => v = .bl true) (fun _ _ _ => False) := ⟨a, ns, rfl, hS, hl, fun _ _ => rfl⟩
def sp_whole : Sp := fun vs H Q _ => ∃ i : Int, vs = [.int i] ∧ RetV (.bl true) H Q
theorem ok_whole {f : Addr} {fd : FuncData} (T : Txt K mg) (F : Fun K "_law_whole" "_law_whole" s_whole f fd) : FnOk P w K mg base CX0 1 f fd ["_law_found"] sp_whole := by
  refine F.ok sc_whole (fun vs H Q E h => by obtain ⟨i, rfl, _⟩ := h; rfl) (fun cdv A outer s H vs Q E hr h => ?_)
  obtain ⟨i, rfl, q⟩ := h
  refine ⟨_, (pss_one (ps_ret (pe_and (pe_callB call_isi (by rfl) T.b_isinstance (by decide +kernel) (pa_cons (pv 0) (pa_cons (pe_bltn (v := .ty "int") (by rfl) T.b_int (by decide +kernel) rfl) pa_nil))) (pe_one (pe_not (pe_callB call_isi (by rfl) T.b_isinstance (by decide +kernel) (pa_cons (pv 0) (pa_cons (pe_bltn (v := .ty "bool") (by rfl) T.b_bool (by decide +kernel) rfl) pa_nil)))))))), ?_⟩
  exact s_ret (ev_andV (b := true) (ev_isi (ev_var rfl) ev_c (fun _ _ => ty_int) (b := true) (by decide +kernel)) fun _ => ev_notV (ev_isi (ev_var rfl) ev_c (fun _ _ => ty_int) (b := false) (by decide +kernel))) fun H1 e1 => q H1 e1
def sp_cell (K : PySem.W.Frag) : Sp := fun vs H Q _ => ∃ (a : Addr) (ns : List Int) (j : Nat), vs = [.ref a, .int (j : Int)] ∧ SqL K H a (ns.map V.int) ∧ RetV (.int (cel ns j)) H Q
theorem spv_cell {H : Hp} {a : Addr} {ns : List Int} {j : Nat} {i : Int} (hs : SqL K H a (ns.map V.int)) (e : i = (j : Int)) : SpV (sp_cell K) [.ref a, .int i] H (.int (cel ns j)) :=
  spv fun H1 e1 Q E q => ⟨a, ns, j, by rw [e], ex_l e1 hs, q⟩
theorem ok_cell_at {f : Addr} {fd : FuncData} (T : Txt K mg) (F : Fun K "_law_cell_at" "_law_cell_at" s_cell_at f fd) : FnOk P w K mg base CX0 1 f fd ["_law_script", "_law_k"] (sp_cell K) := by
  refine F.ok sc_cell_at (fun vs H Q E h => by obtain ⟨a, ns, j, rfl, _⟩ := h; rfl) (fun cdv A outer s H vs Q E hr h => ?_)
  obtain ⟨a, ns, j, rfl, hs, q⟩ := h
  refine ⟨_, (pss_cons (ps_if (pt_cmpR op_lt (pv 1) (pe_callB call_len_seq (by rfl) T.b_len PySem.boot_len (pa_cons (pv 0) pa_nil)) (nomark _)) (pss_one (ps_ret (pe_ix ix_list (pv 0) (pv 1) (fun _ _ => rfl)))) pss_nil)
      (pss_one (ps_ret pe_int))), ?_⟩
  refine q_when (et_test (ev_op (ev_var rfl) (ev_lenL (ev_var rfl) hs) rv_I0)) (fun hb H1 e1 => ?_) (fun hb H1 e1 => ?_)
  · have hj : j < ns.length := by
      have h1 := of_decide_eq_true hb
      rw [List.length_map] at h1
      omega
    exact s_ret (ev_op (ev_var rfl) (ev_var rfl) (rv_ixL (ex_l e1 hs) (cel_in hj))) fun H2 e2 => q H2 (e1.trans e2)
  · have hj : ¬ j < ns.length := by
      have h1 := of_decide_eq_false hb
      rw [List.length_map] at h1
      omega
    rw [cel_out hj] at q
    exact s_ret ev_c fun H2 e2 => q H2 (e1.trans e2)
def shareOf (c : Int) : Int := if c % 5 = 1 then 1 + c / 5 % 1000000000000 else if c % 5 = 2 then 1 + c / 5 % 3 else 1 + c / 5 % 40
theorem shareOf_pos (c : Int) : 1 ≤ shareOf c ∧ shareOf c ≤ 1000000000000 := by
  unfold shareOf
  split
  · omega
  · split <;> omega
def sp_share : Sp := fun vs H Q _ => ∃ c : Int, vs = [.int c] ∧ RetV (.int (shareOf c)) H Q
theorem ok_share_by {f : Addr} {fd : FuncData} (T : Txt K mg) (F : Fun K "_law_share_by" "_law_share_by" s_share_by f fd) : FnOk P w K mg base CX0 1 f fd ["_law_cell"] sp_share := by
  refine F.ok sc_share_by (fun vs H Q E h => by obtain ⟨c, rfl, _⟩ := h; rfl) (fun cdv A outer s H vs Q E hr h => ?_)
  obtain ⟨c, rfl, q⟩ := h
  refine ⟨_, (pss_cons (ps_if (pt_cmpR op_eq (pe_op op_mod (pv 0) pe_int) pe_int (nomark _)) (pss_one (ps_ret (pe_op op_add pe_int (pe_op op_mod (pe_op op_fdiv (pv 0) pe_int) pe_int)))) pss_nil)
      (pss_cons (ps_if (pt_cmpR op_eq (pe_op op_mod (pv 0) pe_int) pe_int (nomark _)) (pss_one (ps_ret (pe_op op_add pe_int (pe_op op_mod (pe_op op_fdiv (pv 0) pe_int) pe_int)))) pss_nil)
      (pss_one (ps_ret (pe_op op_add pe_int (pe_op op_mod (pe_op op_fdiv (pv 0) pe_int) pe_int)))))), ?_⟩
  refine q_when (et_test (ev_op (ev_op (ev_var rfl) ev_c (rv_mod (by decide))) ev_c (rv_eq rfl))) (fun hb H1 e1 => ?_) (fun hb H1 e1 => ?_)
  · have hc : c % 5 = 1 := V.int.inj (of_decide_eq_true hb)
    refine s_ret (ev_op ev_c (ev_op (ev_op (ev_var rfl) ev_c (rv_fdiv (by decide))) ev_c (rv_mod (by decide))) rv_I0) fun H2 e2 => ?_
    have := q H2 (e1.trans e2)
    unfold shareOf at this
    rw [if_pos hc] at this
    exact this
  · have hc : ¬ c % 5 = 1 := fun z => of_decide_eq_false hb (by rw [z])
    refine q_when (et_test (ev_op (ev_op (ev_var rfl) ev_c (rv_mod (by decide))) ev_c (rv_eq rfl))) (fun hb2 H2 e2 => ?_) (fun hb2 H2 e2 => ?_)
    · have hc2 : c % 5 = 2 := V.int.inj (of_decide_eq_true hb2)
      refine s_ret (ev_op ev_c (ev_op (ev_op (ev_var rfl) ev_c (rv_fdiv (by decide))) ev_c (rv_mod (by decide))) rv_I0) fun H3 e3 => ?_
      have := q H3 ((e1.trans e2).trans e3)
      unfold shareOf at this
      rw [if_neg hc, if_pos hc2] at this
      exact this
    · have hc2 : ¬ c % 5 = 2 := fun z => of_decide_eq_false hb2 (by rw [z])
      refine s_ret (ev_op ev_c (ev_op (ev_op (ev_var rfl) ev_c (rv_fdiv (by decide))) ev_c (rv_mod (by decide))) rv_I0) fun H3 e3 => ?_
      have := q H3 ((e1.trans e2).trans e3)
      unfold shareOf at this
      rw [if_neg hc, if_neg hc2] at this
      exact this
def bs (m : Int) : Int := if m - 1 > 1 then m - 1 else 1
theorem bs_pos {m : Int} (h : m ≤ 4) : 1 ≤ bs m ∧ bs m ≤ 3 := by
  unfold bs
  split <;> omega
/-- lengths, one behind the other -/
def lensL : Nat → Int → Int → List Int
  | 0, _, _ => []
  | m + 1, n, b => (1 + n % b) :: lensL m (n / b) b
theorem lensL_len : ∀ (m : Nat) (n b : Int), (lensL m n b).length = m
  | 0, _, _ => rfl
  | m + 1, n, b => congrArg (· + 1) (lensL_len m (n / b) b)
theorem lensL_rng {b : Int} (hb : 1 ≤ b) : ∀ (m : Nat) (n : Int), ∀ l ∈ lensL m n b, 1 ≤ l ∧ l ≤ b
  | 0, _, l, h => absurd h List.not_mem_nil
  | m + 1, n, l, h => by
    rcases List.mem_cons.mp h with e | h
    · have h1 := Int.emod_nonneg n (show b ≠ 0 by omega)
      have h2 := Int.emod_lt_of_pos n (show 0 < b by omega)
      omega
    · exact lensL_rng hb m (n / b) l h
def sp_lengths (K : PySem.W.Frag) : Sp := fun vs H Q _ => ∃ (n : Int) (m : Nat), vs = [.int n, .int (m : Int)] ∧ m ≤ 4 ∧ RetL ((lensL m n (bs (m : Int))).map V.int) H Q
theorem ok_lengths {f : Addr} {fd : FuncData} (T : Txt K mg) (F : Fun K "_law_lengths" "_law_lengths" s_lengths f fd) : FnOk P w K mg base CX0 1 f fd ["_law_number", "_law_many"] (sp_lengths K) := by
  refine F.ok sc_lengths (fun vs H Q E h => by obtain ⟨n, m, rfl, _⟩ := h; rfl) (fun cdv A outer s H vs Q E hr h => ?_)
  obtain ⟨n, m, rfl, hm, q⟩ := h
  refine ⟨_, (pss_cons (ps_set (i := 2) sc_lengths.nd rfl (Or.inl rfl) (pe_lst pa_nil))
      (pss_cons (ps_set (i := 3) sc_lengths.nd rfl (Or.inl rfl) (pe_callB (call_max2 rfl) (by rfl) T.b_max (by decide +kernel) (pa_cons pe_int (pa_cons (pe_op op_sub (pv 1) pe_int) pa_nil))))
      (pss_cons (ps_for PassesOwn.never rfl (pi_range1 (by rfl) T.b_range (pa_cons (pv 1) pa_nil)) (pg_name (i := 4) sc_lengths.nd rfl (Or.inl rfl)) (pss_cons (ps_expr (pe_bm PySem.F.plainAttrs_list PySem.F.slot_list_append PySem.F.type_list_append mt_append (pv 2) (pa_cons (pe_op op_add pe_int (pe_op op_mod (pv 0) (pv 3))) pa_nil)))
      (pss_one (ps_set (i := 0) sc_lengths.nd rfl (Or.inl rfl) (pe_op op_fdiv (pv 0) (pv 3))))))
      (pss_one (ps_ret (pv 2)))))), ?_⟩
  obtain ⟨b1, b2⟩ := bs_pos (m := (m : Int)) (by omega)
  refine q_asgL (el_lst ea_nil (by decide)) fun l H1 hl e1 h1 => ?_
  refine q_asg (ev_max2 ev_c (ev_op (ev_var rfl) ev_c rv_I0)) fun H2 e2 => ?_
  refine q_forR1 (ea_cons (ev_var rfl) ea_nil) ⟨by omega, by omega⟩ (fun i σ' H' => Ex H H' ∧ ∃ (n' : Int) (acc : List Int) (y : Option V), σ' = [some (.int n'), some (.int (m : Int)), some (.ref l), some (.int (bs (m : Int))), y] ∧ H' l = some (.lst (acc.map V.int)) ∧ acc.length = i ∧ i ≤ m ∧ acc ++ lensL (m - i) n' (bs (m : Int)) = lensL m n (bs (m : Int))) (fun H3 e3 => ⟨(e1.trans e2).trans e3, n, [], _, rfl, e3 _ _ (e2 _ _ h1), rfl, Nat.zero_le _, rfl⟩) (fun i σ' H' hi v => ?_) (fun σ' H' v => ?_)
  · obtain ⟨f1, n', acc, y, rfl, f2, f3, f4, f5⟩ := v
    refine q_app (xs := acc.map V.int) (v := .int (1 + n' % bs (m : Int))) f2 (ev_var rfl) (ev_op ev_c (ev_op (ev_var rfl) (ev_var rfl) (rv_mod (by omega))) rv_I0) (by rw [List.length_map, f3]; omega) fun H3 e3 => ?_
    refine s_asg (ev_op (ev_var rfl) (ev_var rfl) (rv_fdiv ⟨by omega, by omega⟩)) fun H4 e4 => ⟨(Ex.mut (f1.trans e3) hl).trans e4, n' / bs (m : Int), acc ++ [1 + n' % bs (m : Int)], _, rfl, ?_, by rw [List.length_append, f3]; rfl, by omega, ?_⟩
    · rw [e4 _ _ upd_same, List.map_append]
      rfl
    · rw [← f5, List.append_assoc]
      congr 1
      rw [show m - i = (m - (i + 1)) + 1 by omega]
      rfl
  · obtain ⟨f1, n', acc, y, rfl, f2, f3, f4, f5⟩ := v
    rw [Int.toNat_natCast] at f5
    rw [Nat.sub_self] at f5
    have f6 : acc = lensL m n (bs (m : Int)) := by
      rw [← f5]
      exact (List.append_nil acc).symm
    rw [f6] at f2
    exact s_ret (ev_var rfl) fun H3 e3 => q l H3 hl (f1.trans e3) (e3 _ _ f2)
def sp_rowsN : Sp := fun vs H Q _ => ∃ m : Nat, vs = [.int (m : Int)] ∧ m ≤ 4 ∧ RetV (.int (bs (m : Int) ^ m)) H Q
theorem ok_rows {f : Addr} {fd : FuncData} (T : Txt K mg) (F : Fun K "_law_rows" "_law_rows" s_rows f fd) : FnOk P w K mg base CX0 1 f fd ["_law_many"] sp_rowsN := by
  refine F.ok sc_rows (fun vs H Q E h => by obtain ⟨m, rfl, _⟩ := h; rfl) (fun cdv A outer s H vs Q E hr h => ?_)
  obtain ⟨m, rfl, hm, q⟩ := h
  refine ⟨_, (pss_cons (ps_set (i := 1) sc_rows.nd rfl (Or.inl rfl) pe_int)
      (pss_cons (ps_for PassesOwn.never rfl (pi_range1 (by rfl) T.b_range (pa_cons (pv 0) pa_nil)) (pg_name (i := 2) sc_rows.nd rfl (Or.inl rfl)) (pss_one (ps_set (i := 1) sc_rows.nd rfl (Or.inl rfl) (pe_op op_mul (pv 1) (pe_callB (call_max2 rfl) (by rfl) T.b_max (by decide +kernel) (pa_cons pe_int (pa_cons (pe_op op_sub (pv 0) pe_int) pa_nil)))))))
      (pss_one (ps_ret (pv 1))))), ?_⟩
  obtain ⟨b1, b2⟩ := bs_pos (m := (m : Int)) (by omega)
  refine q_asg ev_c fun H1 e1 => ?_
  refine q_forR1 (ea_cons (ev_var rfl) ea_nil) ⟨by omega, by omega⟩ (fun i σ' H' => Ex H H' ∧ ∃ y, σ' = [some (.int (m : Int)), some (.int (bs (m : Int) ^ i)), y]) (fun H2 e2 => ⟨e1.trans e2, none, by rw [Int.pow_zero]; rfl⟩) (fun i σ' H' hi v => ?_) (fun σ' H' v => ?_)
  · obtain ⟨f1, y, rfl⟩ := v
    refine s_asg (ev_is (ev_op (ev_var rfl) (ev_is (ev_max2 ev_c (ev_op (ev_var rfl) ev_c rv_I0)) (w := .int (bs (m : Int))) rfl) (rv_mul (.inr ⟨by omega, by omega⟩))) (w := .int (bs (m : Int) ^ (i + 1))) (by rw [Int.pow_succ])) fun H2 e2 => ⟨f1.trans e2, some (.int (i : Int)), rfl⟩
  · obtain ⟨f1, y, rfl⟩ := v
    rw [Int.toNat_natCast]
    exact s_ret (ev_var rfl) fun H2 e2 => q H2 (f1.trans e2)
theorem ev_intB {σ : L2.St} {H : Hp} {ta : TE} {k : Bool} (ha : Ev ta σ H (.bl k)) : Ev (tCB (fun xs H Q => (∃ i, xs = [.int i] ∧ Q (.int i) H) ∨ ∃ k, xs = [.bl k] ∧ Q (.int (if k then 1 else 0)) H) (tCons ta tNil)) σ H (.int (if k then 1 else 0)) := fun H1 e Q q =>
  ha H1 e _ fun H2 e2 => .inr ⟨k, rfl, q H2 e2⟩
/-- [..][i], the list written there -/
theorem ev_ixD {σ : L2.St} {H : Hp} {ta tb : TE} {xs : List V} {v : V} {i : Int} (ha : EvL ta σ H xs) (hb : ∀ H1, Ex H H1 → Ev tb σ H1 (.int i)) (hat : atI xs i = some v) : Ev (tOp (rIxL K) ta tb) σ H v :=
  ev_opL1 ha hb fun p H1 hp _ => rv_ixL (sq_of hp) hat
theorem range_at {f : Nat → Int} {n i : Nat} {y : Int} (h : ((List.range n).map f)[i]? = some y) : y = f i ∧ i < n := by
  rw [List.getElem?_map] at h
  cases hz : (List.range n)[i]? with
  | none => rw [hz] at h; cases h
  | some z =>
    rw [hz] at h
    have hlt := (List.getElem?_eq_some_iff.mp hz)
    obtain ⟨h1, h2⟩ := hlt
    rw [List.getElem_range] at h2
    rw [List.length_range] at h1
    subst h2
    exact ⟨(Option.some.inj h).symm, h1⟩
def shares12 (ns : List Int) (n : Nat) : List Int := (List.range n).map fun k => shareOf (cel ns (1 + k))
def priceL (xs ls : List Int) : List Int := List.zipWith (· * ·) xs ls
theorem opt_list : ∀ (xs ls : List Int), xs.length ≤ 4 → 2 ≤ xs.length → ls.length = xs.length → (∀ x ∈ xs, 1 ≤ x) → (∀ l ∈ ls, 1 ≤ l ∧ l ≤ bs (xs.length : Int)) → (ls.map HF.tk).sum ≤ 8 → HF.cost xs ≤ (priceL xs ls).sum := by
  intro xs ls h1 h2 h3 hx hl ht
  match xs, ls, h1, h2, h3, hx, hl, ht with
  | [a, b], [x, y], _, _, _, hx, hl, ht =>
    have l0 := hl x (by simp)
    have l1 := hl y (by simp)
    have e0 : x = 1 := by have : bs 2 = 1 := rfl; have : x ≤ bs 2 := l0.2; omega
    have e1 : y = 1 := by have : bs 2 = 1 := rfl; have : y ≤ bs 2 := l1.2; omega
    subst e0 e1
    rw [HF.cost2]
    show a + b ≤ ([a * 1, b * 1] : List Int).sum
    simp
  | [a, b, c], [x, y, z], _, _, _, hx, hl, ht =>
    have e : bs 3 = 2 := rfl
    have l0 : 1 ≤ x ∧ x ≤ bs 3 := hl x (by simp)
    have l1 : 1 ≤ y ∧ y ≤ bs 3 := hl y (by simp)
    have l2 : 1 ≤ z ∧ z ≤ bs 3 := hl z (by simp)
    have h := HF.opt3 (hx a (by simp)) (hx b (by simp)) (hx c (by simp)) (x := x) (y := y) (z := z) (by omega) (by omega) (by omega) (by simp at ht; omega)
    show _ ≤ ([a * x, b * y, c * z] : List Int).sum
    simp
    omega
  | [a, b, c, d], [x, y, z, w], _, _, _, hx, hl, ht =>
    have e : bs 4 = 3 := rfl
    have l0 : 1 ≤ x ∧ x ≤ bs 4 := hl x (by simp)
    have l1 : 1 ≤ y ∧ y ≤ bs 4 := hl y (by simp)
    have l2 : 1 ≤ z ∧ z ≤ bs 4 := hl z (by simp)
    have l3 : 1 ≤ w ∧ w ≤ bs 4 := hl w (by simp)
    have h := HF.opt4 (hx a (by simp)) (hx b (by simp)) (hx c (by simp)) (hx d (by simp)) (x := x) (y := y) (z := z) (w := w) (by omega) (by omega) (by omega) (by omega) (by simp at ht; omega)
    show _ ≤ ([a * x, b * y, c * z, d * w] : List Int).sum
    simp
    omega
theorem menu_at {i : Int} (h0 : 0 ≤ i) (h : i < 7) : ∃ m : Nat, atI [V.int 1, V.int 2, V.int 3, V.int 4, V.int 4, V.int 3, V.int 4] i = some (.int (m : Int)) ∧ 1 ≤ m ∧ m ≤ 4 := by
  have : i = 0 ∨ i = 1 ∨ i = 2 ∨ i = 3 ∨ i = 4 ∨ i = 5 ∨ i = 6 := by omega
  rcases this with rfl | rfl | rfl | rfl | rfl | rfl | rfl
  · exact ⟨1, rfl, by omega, by omega⟩
  · exact ⟨2, rfl, by omega, by omega⟩
  · exact ⟨3, rfl, by omega, by omega⟩
  · exact ⟨4, rfl, by omega, by omega⟩
  · exact ⟨4, rfl, by omega, by omega⟩
  · exact ⟨3, rfl, by omega, by omega⟩
  · exact ⟨4, rfl, by omega, by omega⟩
theorem eight_at {l : Int} (h0 : 1 ≤ l) (h : l ≤ 3) : atI [V.int 8, V.int 4, V.int 2, V.int 1] l = some (.int (HF.tk l)) := by
  have : l = 1 ∨ l = 2 ∨ l = 3 := by omega
  rcases this with rfl | rfl | rfl <;> rfl
theorem rows_le {m : Nat} (h : m ≤ 4) : 0 ≤ bs (m : Int) ^ m ∧ bs (m : Int) ^ m ≤ 81 := by
  have : m = 0 ∨ m = 1 ∨ m = 2 ∨ m = 3 ∨ m = 4 := by omega
  rcases this with rfl | rfl | rfl | rfl | rfl <;> decide
theorem cost_one {xs : List Int} (h : xs.length = 1) : HF.cost xs = 0 := by
  match xs, h with
  | [a], _ => exact HF.cost1
theorem ok_law {f : Addr} {fd : FuncData} (T : Txt K mg) (F : Fun K "law" "law" s_law f fd) (C_cost : Cal P w K mg base "cost" ["shares"] 5 (sp_cost K)) (C__law_share_by : Cal P w K mg base "_law_share_by" ["_law_cell"] 1 sp_share) (C__law_lengths : Cal P w K mg base "_law_lengths" ["_law_number", "_law_many"] 1 (sp_lengths K)) (C__law_cell_at : Cal P w K mg base "_law_cell_at" ["_law_script", "_law_k"] 1 (sp_cell K)) (C__law_whole : Cal P w K mg base "_law_whole" ["_law_found"] 1 sp_whole) (C__law_rows : Cal P w K mg base "_law_rows" ["_law_many"] 1 sp_rowsN) : FnOk P w K mg base CX0 6 f fd ["_law_script"] (sp_law K) := by
  refine F.ok sc_law (fun vs H Q E h => by obtain ⟨a, ns, rfl, _⟩ := h; rfl) (fun cdv A outer s H vs Q E hr h => ?_)
  obtain ⟨a, ns, rfl, hs, hlen, q⟩ := h
  refine ⟨_, (pss_cons (ps_set (i := 1) sc_law.nd rfl (Or.inl rfl) (pe_ix ix_list (pe_lst (pa_cons pe_int (pa_cons pe_int (pa_cons pe_int (pa_cons pe_int (pa_cons pe_int (pa_cons pe_int (pa_cons pe_int pa_nil)))))))) (pe_op op_mod (pe_cal C__law_cell_at hr (by decide) (by rfl) (pa_cons (pv 0) (pa_cons pe_int pa_nil))) pe_int) (fun _ _ => rfl)))
      (pss_cons (ps_setLc (i := 2) (own := [("_law_k", 8)]) (g := (gName 8)) (tt := tYes) rfl sc_law.nd rfl rfl (sw_true rfl rfl rfl (by decide +kernel)) (pi_range1 (by rfl) T.b_range (pa_cons (pv 1) pa_nil)) (blkOk_by (N := ["_law_script", "_law_many", "_law_shares", "_law_found", "_law_number", "_law_lengths_here", "_law_taken", "_law_price", "_law_k", "_law_length", "_law_share"]) (sc := defScope s_law) (by decide +kernel)) (fun _ _ _ _ _ => (pg_name (i := 8) sc_law.nd rfl (Or.inl rfl))) (fun _ _ _ _ _ => pts_nil) (fun _ _ _ _ _ => (pe_cal C__law_share_by hr (by decide) (by rfl) (pa_cons (pe_cal C__law_cell_at hr (by decide) (by rfl) (pa_cons (pv 0) (pa_cons (pe_op op_add pe_int (pv 8)) pa_nil))) pa_nil))))
      (pss_cons (ps_set (i := 3) sc_law.nd rfl (Or.inl rfl) (pe_cal C_cost hr (by decide) (by rfl) (pa_cons (pe_callTy call_list_of (by rfl) T.b_list (by decide +kernel) (pa_cons (pv 2) pa_nil)) pa_nil)))
      (pss_cons (ps_if (PW.pt (pw_or (pt_not (pt_val (pe_cal C__law_whole hr (by decide) (by rfl) (pa_cons (pv 3) pa_nil)))) (pw_or1 (PW.pt (pw_and (pt_cmpR op_eq (pv 1) pe_int (nomark _)) (pw_and1 (pt_cmpR op_ne (pv 3) pe_int (nomark _)))))))) (pss_one (ps_ret pe_bl)) pss_nil)
      (pss_cons (ps_for PassesOwn.never rfl (pi_range1 (by rfl) T.b_range (pa_cons (pe_op op_mul (pe_cal C__law_rows hr (by decide) (by rfl) (pa_cons (pv 1) pa_nil)) (pe_callTy call_int1 (by rfl) T.b_int (by decide +kernel) (pa_cons (pe_cmpR op_gt (pv 1) pe_int (nomark _)) pa_nil))) pa_nil)) (pg_name (i := 4) sc_law.nd rfl (Or.inl rfl)) (pss_cons (ps_set (i := 5) sc_law.nd rfl (Or.inl rfl) (pe_cal C__law_lengths hr (by decide) (by rfl) (pa_cons (pv 4) (pa_cons (pv 1) pa_nil))))
      (pss_cons (ps_set (i := 6) sc_law.nd rfl (Or.inl rfl) (pe_callB (cr_sum rfl) (by rfl) T.b_sum (by decide +kernel) (pa_cons (pe_lc (own := [("_law_length", 9)]) (g := (gName 9)) (tt := tYes) rfl sc_law.nd (pi_list (pv 5)) (blkOk_by (N := ["_law_script", "_law_many", "_law_shares", "_law_found", "_law_number", "_law_lengths_here", "_law_taken", "_law_price", "_law_k", "_law_length", "_law_share"]) (sc := defScope s_law) (by decide +kernel)) (fun _ _ _ _ _ => (pg_name (i := 9) sc_law.nd rfl (Or.inl rfl))) (fun _ _ _ _ _ => pts_nil) (fun _ _ _ _ _ => (pe_ixLK (K := K) rfl (pe_lst (pa_cons pe_int (pa_cons pe_int (pa_cons pe_int (pa_cons pe_int pa_nil))))) (pv 9) (fun _ _ => rfl)))) pa_nil)))
      (pss_cons (ps_set (i := 7) sc_law.nd rfl (Or.inl rfl) (pe_callB (cr_sum rfl) (by rfl) T.b_sum (by decide +kernel) (pa_cons (pe_lc (own := [("_law_share", 10), ("_law_length", 9)]) (g := (gTup K 2 (gCons (gName 10) (gCons (gName 9) gNil)))) (tt := tYes) rfl sc_law.nd (pi_zip (by rfl) T.b_zip (pa_cons (pv 2) (pa_cons (pv 5) pa_nil))) (blkOk_by (N := ["_law_script", "_law_many", "_law_shares", "_law_found", "_law_number", "_law_lengths_here", "_law_taken", "_law_price", "_law_k", "_law_length", "_law_share"]) (sc := defScope s_law) (by decide +kernel)) (fun _ _ _ _ _ => (pg_tup rfl (pgs_cons (pg_name (i := 10) sc_law.nd rfl (Or.inl rfl)) (pgs_cons (pg_name (i := 9) sc_law.nd rfl (Or.inl rfl)) pgs_nil)))) (fun _ _ _ _ _ => pts_nil) (fun _ _ _ _ _ => (pe_op op_mul (pv 10) (pv 9)))) pa_nil)))
      (pss_one (ps_if (PW.pt (pw_and (pt_cmpR op_le (pv 6) pe_int (nomark _)) (pw_and1 (pt_cmpR op_lt (pv 7) (pv 3) (nomark _))))) (pss_one (ps_ret pe_bl)) pss_nil))))))
      (pss_one (ps_ret pe_bl))))))), ?_⟩
  obtain ⟨m, hat, hm1, hm2⟩ := menu_at (i := cel ns 0 % 7) (by omega) (by omega)
  refine q_asg (ev_ixD (el_lst (ea_cons ev_c (ea_cons ev_c (ea_cons ev_c (ea_cons ev_c (ea_cons ev_c (ea_cons ev_c (ea_cons ev_c ea_nil))))))) (by simp)) (fun H1 e1 => ev_op (ev_cal (ea_cons (ev_var rfl) (ea_cons ev_c ea_nil)) (spv_cell (j := 0) (ex_l e1 hs) rfl)) ev_c (rv_mod (by decide))) hat) fun H1 e1 => ?_
  refine q_asgL (el_mapR ((shares12 ns m).map V.int) (ea_cons (ev_var rfl) ea_nil) ⟨by omega, by omega⟩ (by simp [shares12]) (fun _ => rfl) (fun i y H2 e2 hi hy => ?_)) fun a1 H2 ha1 e2 h2 => ?_
  · obtain ⟨y, rfl, hy2⟩ := int_at hy
    obtain ⟨rfl, _⟩ := range_at hy2
    exact ev_cal (ea_cons (ev_cal (ea_cons (ev_var rfl) (ea_cons (ev_op ev_c (ev_var rfl) rv_I0) ea_nil)) (spv_cell (j := 1 + i) (ex_l (e1.trans e2) hs) (by omega))) ea_nil) (spv fun _ _ Q E q => ⟨_, rfl, q⟩)
  have hxl : (shares12 ns m).length = m := by simp [shares12]
  have hS : Shares (shares12 ns m) := ⟨by omega, by omega, fun x hx => by
    obtain ⟨k, _, rfl⟩ := List.mem_map.mp hx
    exact shareOf_pos _⟩
  generalize shares12 ns m = xs at h2 hxl hS
  have e12 := e1.trans e2
  refine q_asg (ev_cal1N (el_listof (ev_var rfl) (sq_of h2)) fun r H3 _ h3 => spv fun H4 e4 Q E q => ⟨r, xs, rfl, e4 _ _ h3, hS, q⟩) fun H3 e3 => ?_
  refine q_when (b := false) (et_or (a := false) (et_not (a := true) (et_B (ev_cal (ea_cons (ev_var rfl) ea_nil) (spv fun H3 _ Q E q => ⟨_, rfl, q⟩)))) fun _ => et_is (et_and (et_is (et_test (ev_op (ev_var rfl) ev_c (rv_eq rfl))) (b := decide ((m : Int) = 1)) (decide_eq_decide.mpr ⟨fun z => V.int.inj z, fun z => by rw [z]⟩)) (b := false) fun h1 => et_is (et_test (ev_op (ev_var rfl) ev_c (rv_ne rfl))) ?_) (by simp)) (fun hx => nomatch hx) (fun _ H4 e4 => ?_)
  · have hm := of_decide_eq_true h1
    rw [cost_one (by rw [hxl]; omega)]
    rfl
  obtain ⟨r1, r2⟩ := rows_le (m := m) (by omega)
  have e14 := (e12.trans e3).trans e4
  have hN : ∃ N : Int, bs (m : Int) ^ m * (if decide ((1 : Int) < (m : Int)) = true then 1 else 0) = N ∧ 0 ≤ N ∧ N ≤ 81 ∧ (m = 1 → N = 0) := by
    by_cases h1 : (1 : Int) < (m : Int)
    · exact ⟨bs (m : Int) ^ m, by rw [if_pos (decide_eq_true h1), Int.mul_one], r1, r2, fun h => by omega⟩
    · exact ⟨0, by rw [if_neg (by simpa using h1), Int.mul_zero], by omega, by omega, fun _ => rfl⟩
  obtain ⟨N, hNe, hN0, hN1, hN2⟩ := hN
  refine q_forR1 (n := N) (ea_cons (ev_is (ev_op (ev_cal (ea_cons (ev_var rfl) ea_nil) (spv fun _ _ Q E q => ⟨m, rfl, by omega, q⟩)) (ev_intB (ev_op (ev_var rfl) ev_c rv_I0)) (rv_mul (.inl ⟨by omega, by omega⟩))) (congrArg V.int hNe)) ea_nil) ⟨by omega, by omega⟩
    (fun i σ' H' => Ex H4 H' ∧ ∃ y1 y2 y3 y4 y5 y6 y7, σ' = [some (.ref a), some (.int (m : Int)), some (.ref a1), some (.int (HF.cost xs)), y1, y2, y3, y4, y5, y6, y7]) (fun H5 e5 => ⟨e5, _, _, _, _, _, _, _, rfl⟩) (fun i σ' H' hi p => ?_) (fun σ' H' p => ?_)
  · obtain ⟨f1, y1, y2, y3, y4, y5, y6, y7, rfl⟩ := p
    have hm3 : 2 ≤ m := by
      refine Classical.byContradiction fun hz => ?_
      have := hN2 (by omega)
      omega
    obtain ⟨b1, b2⟩ := bs_pos (m := (m : Int)) (by omega)
    refine q_asgL (el_cal (ea_cons (ev_var rfl) (ea_cons (ev_var rfl) ea_nil)) (spl fun H5 e5 Q E q => ⟨(i : Int), m, rfl, by omega, q⟩)) fun ll H5 hll e5 h5 => ?_
    have lr := lensL_rng b1 m (i : Int)
    have lk := lensL_len m (i : Int) (bs (m : Int))
    generalize lensL m (i : Int) (bs (m : Int)) = ls at h5 lr lk
    refine q_asg (ev_sumN (ns := ls.map HF.tk) (el_mapL _ (ev_var rfl) (sq_of h5) (by simp) (by rw [List.length_map]; omega) (fun _ => rfl) (fun k x y H6 e6 g1 g2 => ?_))) fun H6 e6 => ?_
    · obtain ⟨x, rfl, g3⟩ := int_at g1
      obtain ⟨y, rfl, g4⟩ := int_at g2
      rw [List.getElem?_map, g3] at g4
      cases g4
      have hx := lr x (List.mem_of_getElem? g3)
      exact ev_ixD (el_lst (ea_cons ev_c (ea_cons ev_c (ea_cons ev_c (ea_cons ev_c ea_nil)))) (by simp)) (fun H7 e7 => ev_var rfl) (eight_at hx.1 (by omega))
    have h2b := e6 _ _ (e5 _ _ (f1 _ _ (e4 _ _ (e3 _ _ h2))))
    have pl : (priceL xs ls).length = xs.length := by
      unfold priceL
      rw [List.length_zipWith, lk, hxl, Nat.min_self]
    refine q_asg (ev_sumN (ns := priceL xs ls) (el_mapZ _ (ea_cons (ev_var rfl) (ea_cons (ev_var rfl) ea_nil)) (sq_of h2b) (sq_of (e6 _ _ h5)) (by rw [List.length_map, List.length_map, lk, hxl]) (by rw [List.length_map, List.length_map, pl]) (by rw [List.length_map]; omega) (fun _ _ => rfl) (fun k x z y H7 e7 g1 g2 g3 => ?_))) fun H7 e7 => ?_
    · obtain ⟨x, rfl, k1⟩ := int_at g1
      obtain ⟨z, rfl, k2⟩ := int_at g2
      obtain ⟨y, rfl, k3⟩ := int_at g3
      unfold priceL at k3
      rw [List.getElem?_zipWith, k1, k2] at k3
      cases k3
      have hx := hS.2.2 x (List.mem_of_getElem? k1)
      exact ev_op (ev_var rfl) (ev_var rfl) (rv_mul (.inl ⟨by omega, by omega⟩))
    refine s_when (b := false) (et_is (et_and (et_test (ev_op (ev_var rfl) ev_c rv_I0)) (b := false) fun ht => et_is (et_test (ev_op (ev_var rfl) (ev_var rfl) rv_I0)) ?_) (by simp)) (fun hx => nomatch hx) (fun _ H8 e8 => ⟨(((f1.trans e5).trans e6).trans e7).trans e8, _, _, _, _, _, _, _, rfl⟩)
    have ht := of_decide_eq_true ht
    have := opt_list xs ls (by omega) (by omega) (by omega) (fun x hx => (hS.2.2 x hx).1) (by rw [hxl]; exact lr) ht
    exact decide_eq_false (by omega)
  · obtain ⟨f1, y1, y2, y3, y4, y5, y6, y7, rfl⟩ := p
    exact s_ret ev_c fun H5 e5 => q H5 ((e14.trans f1).trans e5)
end
theorem all_mk {l : PySem.W.OpenLaw} {w : World} {K : PySem.W.Frag} {h : Heap} {mg : Str → Option Value} {fa f0 f1 f2 f3 f4 f5 f6 f7 f8 f9 f10 : Addr} (X : K.In h) (G : h.Ns mainGlobals mg) (hfa : mg "law" = some (.ref fa))
    {tk_GREATEST_SHARE tk_MOST_SHARES : Tok}
    {od0 an0 od1 an1 od2 an2 od3 an3 od4 an4 od5 an5 od6 an6 od7 an7 od8 an8 od9 an9 od10 an10 : Option Addr} {sl0 sl1 sl2 sl3 sl4 sl5 sl6 sl7 sl8 sl9 sl10 : Array (Option Value)} {oc0 kV0 dc0 pm0 cd0 ct0 oc1 kV1 dc1 pm1 cd1 ct1 oc2 kV2 dc2 pm2 cd2 ct2 oc3 kV3 dc3 pm3 cd3 ct3 oc4 kV4 dc4 pm4 cd4 ct4 oc5 kV5 dc5 pm5 cd5 ct5 oc6 kV6 dc6 pm6 cd6 ct6 oc7 kV7 dc7 pm7 cd7 ct7 oc8 kV8 dc8 pm8 cd8 ct8 oc9 kV9 dc9 pm9 cd9 ct9 oc10 kV10 dc10 pm10 cd10 ct10 : Value}
    (a0 : PySem.W.nsIn K mainGlobals "is_whole" = some (some (.ref f0))) (l0 : K.lookup f0 = some ⟨oc0, od0, .func (PySem.W.fnOf "is_whole" "is_whole" (defArgs s_is_whole) (defBody s_is_whole) (defScope s_is_whole) .none kV0 dc0 pm0 an0 cd0 ct0), sl0⟩) (c0 : PySem.W.codeIn K cd0 "is_whole" = true) (k0 : PySem.W.keepIn K (.ref f0) = true)
    (a1 : PySem.W.nsIn K mainGlobals "check_shares" = some (some (.ref f1))) (l1 : K.lookup f1 = some ⟨oc1, od1, .func (PySem.W.fnOf "check_shares" "check_shares" (defArgs s_check_shares) (defBody s_check_shares) (defScope s_check_shares) .none kV1 dc1 pm1 an1 cd1 ct1), sl1⟩) (c1 : PySem.W.codeIn K cd1 "check_shares" = true) (k1 : PySem.W.keepIn K (.ref f1) = true)
    (a2 : PySem.W.nsIn K mainGlobals "pairs" = some (some (.ref f2))) (l2 : K.lookup f2 = some ⟨oc2, od2, .func (PySem.W.fnOf "pairs" "pairs" (defArgs s_pairs) (defBody s_pairs) (defScope s_pairs) .none kV2 dc2 pm2 an2 cd2 ct2), sl2⟩) (c2 : PySem.W.codeIn K cd2 "pairs" = true) (k2 : PySem.W.keepIn K (.ref f2) = true)
    (a3 : PySem.W.nsIn K mainGlobals "codes" = some (some (.ref f3))) (l3 : K.lookup f3 = some ⟨oc3, od3, .func (PySem.W.fnOf "codes" "codes" (defArgs s_codes) (defBody s_codes) (defScope s_codes) .none kV3 dc3 pm3 an3 cd3 ct3), sl3⟩) (c3 : PySem.W.codeIn K cd3 "codes" = true) (k3 : PySem.W.keepIn K (.ref f3) = true)
    (a4 : PySem.W.nsIn K mainGlobals "cost" = some (some (.ref f4))) (l4 : K.lookup f4 = some ⟨oc4, od4, .func (PySem.W.fnOf "cost" "cost" (defArgs s_cost) (defBody s_cost) (defScope s_cost) .none kV4 dc4 pm4 an4 cd4 ct4), sl4⟩) (c4 : PySem.W.codeIn K cd4 "cost" = true) (k4 : PySem.W.keepIn K (.ref f4) = true)
    (a5 : PySem.W.nsIn K mainGlobals "_law_whole" = some (some (.ref f5))) (l5 : K.lookup f5 = some ⟨oc5, od5, .func (PySem.W.fnOf "_law_whole" "_law_whole" (defArgs s_whole) (defBody s_whole) (defScope s_whole) .none kV5 dc5 pm5 an5 cd5 ct5), sl5⟩) (c5 : PySem.W.codeIn K cd5 "_law_whole" = true) (k5 : PySem.W.keepIn K (.ref f5) = true)
    (a6 : PySem.W.nsIn K mainGlobals "_law_cell_at" = some (some (.ref f6))) (l6 : K.lookup f6 = some ⟨oc6, od6, .func (PySem.W.fnOf "_law_cell_at" "_law_cell_at" (defArgs s_cell_at) (defBody s_cell_at) (defScope s_cell_at) .none kV6 dc6 pm6 an6 cd6 ct6), sl6⟩) (c6 : PySem.W.codeIn K cd6 "_law_cell_at" = true) (k6 : PySem.W.keepIn K (.ref f6) = true)
    (a7 : PySem.W.nsIn K mainGlobals "_law_share_by" = some (some (.ref f7))) (l7 : K.lookup f7 = some ⟨oc7, od7, .func (PySem.W.fnOf "_law_share_by" "_law_share_by" (defArgs s_share_by) (defBody s_share_by) (defScope s_share_by) .none kV7 dc7 pm7 an7 cd7 ct7), sl7⟩) (c7 : PySem.W.codeIn K cd7 "_law_share_by" = true) (k7 : PySem.W.keepIn K (.ref f7) = true)
    (a8 : PySem.W.nsIn K mainGlobals "_law_lengths" = some (some (.ref f8))) (l8 : K.lookup f8 = some ⟨oc8, od8, .func (PySem.W.fnOf "_law_lengths" "_law_lengths" (defArgs s_lengths) (defBody s_lengths) (defScope s_lengths) .none kV8 dc8 pm8 an8 cd8 ct8), sl8⟩) (c8 : PySem.W.codeIn K cd8 "_law_lengths" = true) (k8 : PySem.W.keepIn K (.ref f8) = true)
    (a9 : PySem.W.nsIn K mainGlobals "_law_rows" = some (some (.ref f9))) (l9 : K.lookup f9 = some ⟨oc9, od9, .func (PySem.W.fnOf "_law_rows" "_law_rows" (defArgs s_rows) (defBody s_rows) (defScope s_rows) .none kV9 dc9 pm9 an9 cd9 ct9), sl9⟩) (c9 : PySem.W.codeIn K cd9 "_law_rows" = true) (k9 : PySem.W.keepIn K (.ref f9) = true)
    (a10 : PySem.W.nsIn K mainGlobals "law" = some (some (.ref f10))) (l10 : K.lookup f10 = some ⟨oc10, od10, .func (PySem.W.fnOf "law" "law" (defArgs s_law) (defBody s_law) (defScope s_law) .none kV10 dc10 pm10 an10 cd10 ct10), sl10⟩) (c10 : PySem.W.codeIn K cd10 "law" = true) (k10 : PySem.W.keepIn K (.ref f10) = true)
    (zb_bool : PySem.W.nsIn K mainGlobals "bool" = some none)
    (zb_enumerate : PySem.W.nsIn K mainGlobals "enumerate" = some none)
    (zb_int : PySem.W.nsIn K mainGlobals "int" = some none)
    (zb_isinstance : PySem.W.nsIn K mainGlobals "isinstance" = some none)
    (zb_len : PySem.W.nsIn K mainGlobals "len" = some none)
    (zb_list : PySem.W.nsIn K mainGlobals "list" = some none)
    (zb_max : PySem.W.nsIn K mainGlobals "max" = some none)
    (zb_range : PySem.W.nsIn K mainGlobals "range" = some none)
    (zb_reversed : PySem.W.nsIn K mainGlobals "reversed" = some none)
    (zb_sum : PySem.W.nsIn K mainGlobals "sum" = some none)
    (zb_zip : PySem.W.nsIn K mainGlobals "zip" = some none)
    (zg_GREATEST_SHARE : PySem.W.nsIn K mainGlobals "GREATEST_SHARE" = some (some (.int 1000000000000 tk_GREATEST_SHARE)))
    (zg_MOST_SHARES : PySem.W.nsIn K mainGlobals "MOST_SHARES" = some (some (.int 40 tk_MOST_SHARES)))
    (zg_heapify : PySem.W.nsIn K mainGlobals "heapify" = some (some (.builtin "_heapq.heapify")))
    (zg_heappop : PySem.W.nsIn K mainGlobals "heappop" = some (some (.builtin "_heapq.heappop")))
    (zg_heappush : PySem.W.nsIn K mainGlobals "heappush" = some (some (.builtin "_heapq.heappush"))) :
    ∃ fd : FuncData, (∀ (s : Shared) (v : Value), BindsTo s fd ⟨[v], []⟩ [("_law_script", v)]) ∧ ∀ base : Heap, K.In base → base.Ns mainGlobals mg → FnOk l.prog w K mg base CX0 6 fa fd ["_law_script"] (sp_law K) := by
  have e := hfa.symm.trans (PySem.W.mg_of X G a10)
  cases e
  have T : Txt K mg := ⟨PySem.W.mg_none_of X G zb_bool, PySem.W.mg_none_of X G zb_enumerate, PySem.W.mg_none_of X G zb_int, PySem.W.mg_none_of X G zb_isinstance, PySem.W.mg_none_of X G zb_len, PySem.W.mg_none_of X G zb_list, PySem.W.mg_none_of X G zb_max, PySem.W.mg_none_of X G zb_range, PySem.W.mg_none_of X G zb_reversed, PySem.W.mg_none_of X G zb_sum, PySem.W.mg_none_of X G zb_zip, ⟨_, PySem.W.mg_of X G zg_GREATEST_SHARE, ⟨_, rfl⟩⟩, ⟨_, PySem.W.mg_of X G zg_MOST_SHARES, ⟨_, rfl⟩⟩, PySem.W.mg_of X G zg_heapify, PySem.W.mg_of X G zg_heappop, PySem.W.mg_of X G zg_heappush⟩
  have F0 := fun_mk (st := s_is_whole) l0 c0 k0
  have b0 := F0.binds (ps := ["value", "low", "high"]) fun _ _ _ _ _ _ us hl => match us, hl with | [_, _, _], _ => rfl
  have F1 := fun_mk (st := s_check_shares) l1 c1 k1
  have b1 := F1.binds (ps := ["shares"]) fun _ _ _ _ _ _ us hl => match us, hl with | [_], _ => rfl
  have F2 := fun_mk (st := s_pairs) l2 c2 k2
  have b2 := F2.binds (ps := ["shares"]) fun _ _ _ _ _ _ us hl => match us, hl with | [_], _ => rfl
  have F3 := fun_mk (st := s_codes) l3 c3 k3
  have b3 := F3.binds (ps := ["shares"]) fun _ _ _ _ _ _ us hl => match us, hl with | [_], _ => rfl
  have F4 := fun_mk (st := s_cost) l4 c4 k4
  have b4 := F4.binds (ps := ["shares"]) fun _ _ _ _ _ _ us hl => match us, hl with | [_], _ => rfl
  have F5 := fun_mk (st := s_whole) l5 c5 k5
  have b5 := F5.binds (ps := ["_law_found"]) fun _ _ _ _ _ _ us hl => match us, hl with | [_], _ => rfl
  have F6 := fun_mk (st := s_cell_at) l6 c6 k6
  have b6 := F6.binds (ps := ["_law_script", "_law_k"]) fun _ _ _ _ _ _ us hl => match us, hl with | [_, _], _ => rfl
  have F7 := fun_mk (st := s_share_by) l7 c7 k7
  have b7 := F7.binds (ps := ["_law_cell"]) fun _ _ _ _ _ _ us hl => match us, hl with | [_], _ => rfl
  have F8 := fun_mk (st := s_lengths) l8 c8 k8
  have b8 := F8.binds (ps := ["_law_number", "_law_many"]) fun _ _ _ _ _ _ us hl => match us, hl with | [_, _], _ => rfl
  have F9 := fun_mk (st := s_rows) l9 c9 k9
  have b9 := F9.binds (ps := ["_law_many"]) fun _ _ _ _ _ _ us hl => match us, hl with | [_], _ => rfl
  have F10 := fun_mk (st := s_law) l10 c10 k10
  refine ⟨PySem.W.fnOf "law" "law" (defArgs s_law) (defBody s_law) (defScope s_law) .none kV10 dc10 pm10 an10 cd10 ct10, fun s v => .of_eq rfl, fun base _ _ => ?_⟩
  have C0 : Cal l.prog w K mg base "is_whole" ["value", "low", "high"] 1 sp_isw := ⟨_, _, ok_is_whole T F0, PySem.W.mg_of X G a0, F0.kp, b0⟩
  have C1 : Cal l.prog w K mg base "check_shares" ["shares"] 2 (sp_chkS K) := ⟨_, _, ok_check_shares T F1 C0, PySem.W.mg_of X G a1, F1.kp, b1⟩
  have C2 : Cal l.prog w K mg base "pairs" ["shares"] 3 (sp_pairs K) := ⟨_, _, ok_pairs T F2 C1, PySem.W.mg_of X G a2, F2.kp, b2⟩
  have C3 : Cal l.prog w K mg base "codes" ["shares"] 4 (sp_codes K) := ⟨_, _, ok_codes T F3 C2, PySem.W.mg_of X G a3, F3.kp, b3⟩
  have C4 : Cal l.prog w K mg base "cost" ["shares"] 5 (sp_cost K) := ⟨_, _, ok_cost T F4 C3, PySem.W.mg_of X G a4, F4.kp, b4⟩
  have C5 : Cal l.prog w K mg base "_law_whole" ["_law_found"] 1 sp_whole := ⟨_, _, ok_whole T F5, PySem.W.mg_of X G a5, F5.kp, b5⟩
  have C6 : Cal l.prog w K mg base "_law_cell_at" ["_law_script", "_law_k"] 1 (sp_cell K) := ⟨_, _, ok_cell_at T F6, PySem.W.mg_of X G a6, F6.kp, b6⟩
  have C7 : Cal l.prog w K mg base "_law_share_by" ["_law_cell"] 1 sp_share := ⟨_, _, ok_share_by T F7, PySem.W.mg_of X G a7, F7.kp, b7⟩
  have C8 : Cal l.prog w K mg base "_law_lengths" ["_law_number", "_law_many"] 1 (sp_lengths K) := ⟨_, _, ok_lengths T F8, PySem.W.mg_of X G a8, F8.kp, b8⟩
  have C9 : Cal l.prog w K mg base "_law_rows" ["_law_many"] 1 sp_rowsN := ⟨_, _, ok_rows T F9, PySem.W.mg_of X G a9, F9.kp, b9⟩
  exact ok_law T F10 C4 C7 C8 C6 C5 C9
end SP
open PySem PySem.W PyProof.Rows
set_option maxRecDepth 100000 in
set_option maxHeartbeats 0 in
theorem PySem.Challenge.cw_sharepack_k12_whole_no_lower_cost_holds : PySem.Challenge.rw_sharepack_k12_whole_no_lower_cost.Holds := by
  w_on; o_law; k_head; (case hw => w_witness2)
  k_fill
  refine L2.walk_ofK (l := PySem.Challenge.rw_sharepack_k12_whole_no_lower_cost) (n := 63) (k := 6) (x := "_law_script") (CX := L2.CX0) (sp := fun K => SP.sp_law K) rfl (by decide) rfl ⟨rfl, by decide, by decide⟩ (fun w h Y => PySem.W.kIn_of Y) ?F (fun K H a ns hl hO hS => SP.law_start hl hS) (fun _ _ _ _ h => h)
  case F =>
    intro w mg fa h KX G hmg
    refine' SP.all_mk KX G hmg ?a0 ?l0 ?c0 ?k0 ?a1 ?l1 ?c1 ?k1 ?a2 ?l2 ?c2 ?k2 ?a3 ?l3 ?c3 ?k3 ?a4 ?l4 ?c4 ?k4 ?a5 ?l5 ?c5 ?k5 ?a6 ?l6 ?c6 ?k6 ?a7 ?l7 ?c7 ?k7 ?a8 ?l8 ?c8 ?k8 ?a9 ?l9 ?c9 ?k9 ?a10 ?l10 ?c10 ?k10 ?zb_bool ?zb_enumerate ?zb_int ?zb_isinstance ?zb_len ?zb_list ?zb_max ?zb_range ?zb_reversed ?zb_sum ?zb_zip ?zg_GREATEST_SHARE ?zg_MOST_SHARES ?zg_heapify ?zg_heappop ?zg_heappush
    (case a0 => k_is)
    (case l0 => k_is)
    (case c0 => k_is)
    (case k0 => k_is)
    (case a1 => k_is)
    (case l1 => k_is)
    (case c1 => k_is)
    (case k1 => k_is)
    (case a2 => k_is)
    (case l2 => k_is)
    (case c2 => k_is)
    (case k2 => k_is)
    (case a3 => k_is)
    (case l3 => k_is)
    (case c3 => k_is)
    (case k3 => k_is)
    (case a4 => k_is)
    (case l4 => k_is)
    (case c4 => k_is)
    (case k4 => k_is)
    (case a5 => k_is)
    (case l5 => k_is)
    (case c5 => k_is)
    (case k5 => k_is)
    (case a6 => k_is)
    (case l6 => k_is)
    (case c6 => k_is)
    (case k6 => k_is)
    (case a7 => k_is)
    (case l7 => k_is)
    (case c7 => k_is)
    (case k7 => k_is)
    (case a8 => k_is)
    (case l8 => k_is)
    (case c8 => k_is)
    (case k8 => k_is)
    (case a9 => k_is)
    (case l9 => k_is)
    (case c9 => k_is)
    (case k9 => k_is)
    (case a10 => k_is)
    (case l10 => k_is)
    (case c10 => k_is)
    (case k10 => k_is)
    (case zb_bool => k_is)
    (case zb_enumerate => k_is)
    (case zb_int => k_is)
    (case zb_isinstance => k_is)
    (case zb_len => k_is)
    (case zb_list => k_is)
    (case zb_max => k_is)
    (case zb_range => k_is)
    (case zb_reversed => k_is)
    (case zb_sum => k_is)
    (case zb_zip => k_is)
    (case zg_GREATEST_SHARE => k_is)
    (case zg_MOST_SHARES => k_is)
    (case zg_heapify => k_is)
    (case zg_heappop => k_is)
    (case zg_heappush => k_is)
