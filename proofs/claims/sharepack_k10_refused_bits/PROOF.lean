import PyProof.Rows.All
import Wide.All
import OpenK.AllK
import Wide.FinOn
import KE.RegKIsAll
import HandS.ForMost
import HandS.Evl
import HandS.Walk
import HandS.IsInst
import HandS.RevRange
import HandS.Gcd
import HandS.Replace
import HandS.TupLe
import HandS.Steps
import HandS.More
import PyProof.ListStr
import KE.Datum
import HandS.Iter
import HandS.ForExc
import HandS.TryMany
import HandS.ExcIs
import HandS.Style
import HandS.StrMore
import HandS.Text
import HandS.FStr
import KE.KIntText
import HandS.HotCalls
import HandS.Lambda
import HandS.EndOwn
import KE.DatumMore
import PySem.Challenge.RW_sharepack_k10_refused_bits
set_option Elab.async false
set_option linter.all false
set_option maxRecDepth 100000
set_option maxHeartbeats 4000000
set_option maxHeartbeats 4000000
namespace SP
open PySem L2 Evl

/-- a def of the module, ready to be called -/
structure Cal (P : Program) (w : World) (K : PySem.W.Frag) (mg : Str → Option Value) (base : Heap) (x : Str) (ps : List Str) (k : Nat) (sp : Sp) : Prop where
  ex : ∃ f fd, FnOk P w K mg base CX0 k f fd ps sp ∧ mg x = some (.ref f) ∧ PySem.W.keepIn K (.ref f) = true ∧ Binds K fd ps []

section
variable {X : Cx} {x : Str} {ps : List Str} {k k' : Nat} {sp : Sp} {p pos : Pos} {e : Expr} {es : List Expr} {t : TA}
theorem pe_cal (C : Cal X.prog X.w X.K X.mg X.base x ps k sp) (hr : Room k' X.A) (hk : k ≤ k') (hg : Gl X x) (ha : PA X (e :: es) t)
    (hdb : (x == ("__debug__" : Str)) = false := by decide) (he : starEach (e :: es) X.env = (false, eval e X.env) :: starEach es X.env := by rfl) (hpl : (backTo pos (starEach es X.env)).any (·.1) = false := by rfl) :
    PE X (.Call (.Name x p) (e :: es) [] pos) (tCall sp [] E0 t) := by
  obtain ⟨f, fd, G, m, kp, b⟩ := C.ex
  exact pe_call G (hr.mono hk) hg m kp b .nil pass0 ha hdb he hpl
end

theorem pe_globX {X : Cx} {x : Str} {v : V} {pos : Pos} (hg : Gl X x) (h : ∃ u, X.mg x = some u ∧ RelV v u) (hd : (x == ("__debug__" : Str)) = false := by decide) : PE X (.Name x pos) (tC v) := by
  obtain ⟨u, hm, r⟩ := h
  exact pe_glob hg hm r hd
/-! rules for a comprehension's element: the written part named by a letter -/
section
variable {X : Cx} {K : PySem.W.Frag} {a b o e : Expr} {es : List Expr} {ta tb to : TE} {t : TA} {pos apos cpos : Pos} {name : Str} {T id : String} {r : V → List V → Hp → VK → Prop}
theorem pe_ixLK (hK : X.K = K) (ha : PE X a ta) (hb : PE X b tb) (hs : PlainIx b) : PE X (.Subscript a b pos) (tOp (rIxL K) ta tb) := by
  subst hK
  exact pe_ix ix_list ha hb hs
theorem pe_ixTK (hK : X.K = K) (ha : PE X a ta) (hb : PE X b tb) (hs : PlainIx b) : PE X (.Subscript a b pos) (tOp (rIxT K) ta tb) := by
  subst hK
  exact pe_ix ix_tup ha hb hs
theorem pe_bmK (hK : X.K = K) (pa : PlainAttrs T) (slot : Slot T name id) (hty : typeOf (.builtin id) = pure (.type "method_descriptor")) (hm : MtR X id r) (ho : PE X o to) (ha : PA X (e :: es) t)
    (hbase : attributeBase o name X.env (eval o X.env) = eval o X.env := by rfl)
    (hfew : ((backTo cpos (starEach (e :: es) X.env)).all (fun x => !x.1) && (backToKw cpos (keywordEach [] X.env)).all (fun x => x.1.isSome)
      && decide ((e :: es).length + ([] : List Keyword).length + (if ([] : List Keyword).isEmpty then 0 else 1) < 30)) = true := by rfl)
    (hline : (apos.endLine == cpos.line) = true := by rfl) (hs : starEach (e :: es) X.env = (false, eval e X.env) :: starEach es X.env := by rfl) (hplain : (backTo cpos (starEach es X.env)).any (·.1) = false := by rfl) :
    PE X (.Call (.Attribute o name apos) (e :: es) [] cpos) (tBM K T r to t) := by
  subst hK
  exact pe_bm pa slot hty hm ho ha hbase hfew hline hs hplain
end
section
variable {K : PySem.W.Frag} {σ : L2.St} {H H' : Hp} {ta tb te tx : TE} {t u : TT} {x y z v : V} {r : R2}
theorem ev_cal {sp : Sp} {vs : List V} {E : XK} {ta : TA} (h : EvA ta σ H vs) (hs : SpV sp vs H z) : Ev (tCall sp [] E ta) σ H z :=
  ev_call h (by rw [List.append_nil]; exact hs)
theorem el_cal {sp : Sp} {vs xs : List V} {E : XK} {ta : TA} (h : EvA ta σ H vs) (hs : SpL sp vs H xs) : EvL (tCall sp [] E ta) σ H xs :=
  el_call h (by rw [List.append_nil]; exact hs)
theorem rv_fdiv {i j : Int} (hc : 0 < j ∧ j < 1073741824) : RV (rI CDiv fun i j => .int (i / j)) (.int i) (.int j) H (.int (i / j)) := rv_I hc
theorem rv_mod {i j : Int} (hc : 0 < j) : RV (rI (fun _ j => 0 < j) fun i j => .int (i % j)) (.int i) (.int j) H (.int (i % j)) := rv_I (C := fun _ j => 0 < j) hc
theorem rv_mul {i j : Int} (hc : CMul i j) : RV (rI CMul fun i j => .int (i * j)) (.int i) (.int j) H (.int (i * j)) := rv_I hc
theorem rv_addS {i j : Str} (h : i.length + j.length ≤ sizeLine) : RV (fun x y H Q => ∃ i j, x = .str i ∧ y = .str j ∧ i.length + j.length ≤ sizeLine ∧ Q (.str (i ++ j)) H) (.str i) (.str j) H (.str (i ++ j)) :=
  fun H1 _ _ q => ⟨i, j, rfl, rfl, h, q H1 (Ex.refl H1)⟩
/-- len of a list | a text -/
theorem ev_lenL {K : PySem.W.Frag} {p : Addr} {xs : List V} (ha : Ev ta σ H (.ref p)) (h : SqL K H p xs) : Ev (tCB (rLenS K) (tCons ta tNil)) σ H (.int (xs.length : Int)) := ev_len ha h
theorem ev_lenT {K : PySem.W.Frag} {p : Addr} {xs : List V} (ha : Ev ta σ H (.ref p)) (h : SqT K H p xs) : Ev (tCB (rLenS K) (tCons ta tNil)) σ H (.int (xs.length : Int)) := fun H1 e Q q =>
  ha H1 e _ fun H2 e2 => ⟨p, xs, rfl, Or.inr (ex_t (e.trans e2) h), q H2 e2⟩
theorem ev_lenZ {z : Str} (ha : Ev ta σ H (.str z)) (h : z.length ≤ sizeLine) : Ev (tCB (fun xs H Q => ∃ z, xs = [.str z] ∧ z.length ≤ sizeLine ∧ Q (.int z.length) H) (tCons ta tNil)) σ H (.int (z.length : Int)) := fun H1 e Q q =>
  ha H1 e _ fun H2 e2 => ⟨z, rfl, h, q H2 e2⟩
/-- isinstance(x, T), T a built-in class -/
theorem ev_isi {n a : String} {b : Bool} (ha : Ev ta σ H x) (hb : Ev tb σ H (.ty n)) (ht : ∀ H1, Ex H H1 → TyX K H1 x (.type a)) (h : kitB a n = some b) : Ev (tCB (rIsi K) (tCons ta (tCons tb tNil))) σ H (.bl b) := fun H1 e Q q =>
  ha H1 e _ fun H2 e2 => hb H2 (e.trans e2) _ fun H3 e3 => ⟨x, .ty n, .type a, .type n, b, rfl, .ty n, ht H3 ((e.trans e2).trans e3), kit_ty h, q H3 (e2.trans e3)⟩
theorem ty_int {i : Int} : TyX K H (.int i) (.type "int") := .base (.int i)
theorem ty_lst {a : Addr} {xs : List V} (e : H a = some (.lst xs)) : TyX K H (.ref a) (.type "list") := .base (.lst e)
theorem ty_tup {a : Addr} {xs : List V} (e : H a = some (.tup xs)) : TyX K H (.ref a) (.type "tuple") := .base (.tup e)
theorem ty_str {z : Str} : TyX K H (.str z) (.type "str") := .base (.str z)
/-- list(x) of a list -/
theorem el_listof {p : Addr} {xs : List V} (ha : Ev ta σ H (.ref p)) (h : SqL K H p xs) : EvL (tCB (rListS K) (tCons ta tNil)) σ H xs := el_list ha h
/-- sum of a list of ints -/
theorem ev_sum {p : Addr} {ns : List Int} (ha : Ev ta σ H (.ref p)) (h : SqL K H p (ns.map V.int)) : Ev (tCB (rSum K) (tCons ta tNil)) σ H (.int ns.sum) := fun H1 e Q q =>
  ha H1 e _ fun H2 e2 => ⟨p, ns, rfl, ex_l (e.trans e2) h, q H2 e2⟩
theorem ev_sumN {ns : List Int} (ha : EvL ta σ H (ns.map V.int)) : Ev (tCB (rSum K) (tCons ta tNil)) σ H (.int ns.sum) := fun H1 e Q q =>
  ha H1 e _ fun p H2 _ e2 h2 => ⟨p, ns, rfl, sq_of h2, q H2 e2⟩
/-- a < b < c over ints -/
theorem ev_chain {p q : Int → Int → Bool} {i j k : Int} {tc : TE} (ha : Ev ta σ H (.int i)) (hb : Ev tb σ H (.int j)) (hc : Ev tc σ H (.int k)) :
    Ev (tChain (rI0 fun i j => .bl (p i j)) (rI0 fun i j => .bl (q i j)) ta tb tc) σ H (.bl (p i j && q j k)) := fun H1 e Q h =>
  ha H1 e _ fun H2 e2 => hb H2 (e.trans e2) _ fun H3 e3 => ⟨i, j, rfl, rfl, p i j, rfl, by
    cases hp : p i j with
    | true =>
      show tc σ H3 _
      exact hc H3 ((e.trans e2).trans e3) _ fun H4 e4 => ⟨j, k, rfl, rfl, (by
        have h4 := h H4 ((e2.trans e3).trans e4)
        rw [hp] at h4
        exact h4)⟩
    | false =>
      show Q (.bl false) H3
      have := h H3 (e2.trans e3)
      rw [hp] at this
      exact this⟩
theorem spv {sp : Sp} {vs : List V} (h : ∀ H1, Ex H H1 → ∀ (Q : VK) (E : XK), RetV z H1 Q → sp vs H1 Q E) : SpV sp vs H z := fun H1 e Q q E => h H1 e Q E q
theorem spl {sp : Sp} {vs xs : List V} (h : ∀ H1, Ex H H1 → ∀ (Q : VK) (E : XK), RetL xs H1 Q → sp vs H1 Q E) : SpL sp vs H xs := fun H1 e Q q E => h H1 e Q E q
/-- return f(x, y), y a new list -/
theorem s_retArg2L {D : Ends} {sp : Sp} {E : XK} {p : Addr} {ys : List V} (ha : Ev ta σ H (.ref p)) (hb : EvL tb σ H ys) (hs : ∀ r H1, Ex H H1 → H1 r = some (.lst ys) → SpV sp [.ref p, .ref r] H1 z) (k : ∀ H1, Ex H H1 → D.rt z H1) :
    tRet (tCall sp [] E (tCons ta (tCons tb tNil))) D σ H :=
  ha H (Ex.refl H) _ fun H1 e1 => hb H1 e1 _ fun r H2 _ e2 h2 => hs r H2 (e1.trans e2) h2 H2 (Ex.refl H2) _ (fun H3 e3 => k H3 ((e1.trans e2).trans e3)) E
/-- a call whose one argument is a new list -/
theorem el_cal1N {sp : Sp} {E : XK} {xs ys : List V} (ha : EvL ta σ H xs) (hs : ∀ r H1, Ex H H1 → H1 r = some (.lst xs) → SpL sp [.ref r] H1 ys) : EvL (tCall sp [] E (tCons ta tNil)) σ H ys := fun H1 e Q q =>
  ha H1 e _ fun r H2 _ e2 h2 => hs r H2 (e.trans e2) h2 H2 (Ex.refl H2) Q (fun p H3 hp e3 h3 => q p H3 (fresh_back e2 hp) (e2.trans e3) h3) E
theorem ev_cal1N {sp : Sp} {E : XK} {xs : List V} (ha : EvL ta σ H xs) (hs : ∀ r H1, Ex H H1 → H1 r = some (.lst xs) → SpV sp [.ref r] H1 z) : Ev (tCall sp [] E (tCons ta tNil)) σ H z := fun H1 e Q q =>
  ha H1 e _ fun r H2 _ e2 h2 => hs r H2 (e.trans e2) h2 H2 (Ex.refl H2) Q (fun H3 e3 => q H3 (e2.trans e3)) E
theorem ev_neg {i : Int} (ha : Ev ta σ H (.int i)) : Ev (tUn (rU fun i => .int (-i)) ta) σ H (.int (-i)) := ev_un ha ru_neg
/-- the script's cell at a place, 0 behind its end -/
def cel (ns : List Int) (j : Nat) : Int := ns.getD j 0
theorem cel_in {ns : List Int} {j : Nat} (h : j < ns.length) : atI (ns.map V.int) ((j : Nat) : Int) = some (V.int (cel ns j)) := by
  refine atI_nat ?_
  unfold cel
  rw [List.getElem?_map, List.getElem?_eq_getElem h, List.getD_eq_getElem?_getD, List.getElem?_eq_getElem h]
  rfl
theorem cel_out {ns : List Int} {j : Nat} (h : ¬ j < ns.length) : cel ns j = 0 := by
  unfold cel
  rw [List.getD_eq_getElem?_getD, List.getElem?_eq_none (by omega)]
  rfl
/-- the item of a list of ints -/
theorem int_at {ns : List Int} {n : Nat} {x : V} (hx : (ns.map V.int)[n]? = some x) : ∃ z : Int, x = V.int z ∧ ns[n]? = some z := by
  rw [List.getElem?_map] at hx
  cases hz : ns[n]? with
  | none => rw [hz] at hx; cases hx
  | some z => rw [hz] at hx; exact ⟨z, (Option.some.inj hx).symm, rfl⟩
/-! comprehensions without a test: the whole list that they make -/
def Cm (H : Hp) (ys : List V) (Dl : Addr) (i : Nat) (H' : Hp) : Prop := H Dl = none ∧ Ex H H' ∧ H' Dl = some (.lst (ys.take i))
theorem take_snoc {ys : List V} {i : Nat} {y : V} (h : ys[i]? = some y) : ys.take (i + 1) = ys.take i ++ [y] := by
  rw [List.take_add_one, h]
  rfl
theorem cm_turn {H H' H2 : Hp} {ys : List V} {Dl : Addr} {i : Nat} {σ2 : L2.St} {y : V} (p : Cm H ys Dl i H') (e2 : Ex H' H2) (hi : ys[i]? = some y) (hz : ys.length ≤ 50000) (he : Ev te σ2 H y) :
    te σ2 H2 fun y H4 => ∃ acc, H4 Dl = some (.lst acc) ∧ acc.length < sizeLine ∧ Cm H ys Dl (i + 1) (upd H4 Dl (.lst (acc ++ [y]))) := by
  obtain ⟨p1, p2, p3⟩ := p
  refine he H2 (p2.trans e2) _ fun H4 e4 => ⟨ys.take i, e4 Dl _ (e2 Dl _ p3), sz_lt ?_, p1, Ex.mut ((p2.trans e2).trans e4) p1, ?_⟩
  · rw [List.length_take]
    omega
  · rw [take_snoc hi]
    exact upd_same
theorem cm_end {H H' : Hp} {ys : List V} {Dl : Addr} {n : Nat} (p : Cm H ys Dl n H') (hn : ys.length = n) : H' Dl = some (.lst ys) := by
  have := p.2.2
  rwa [List.take_of_length_le (by omega)] at this
theorem get_of {ys : List V} {i n : Nat} (hn : ys.length = n) (hi : i < n) : ∃ y, ys[i]? = some y := ⟨ys[i], List.getElem?_eq_getElem (by omega)⟩
/-- over a list -/
theorem el_mapL {a : Addr} {xs : List V} {tl : TE} {j : Nat} {vs : List Nat} (ys : List V) (h : Ev tl σ H (.ref a)) (hx : SqL K H a xs) (hn : ys.length = xs.length) (hz : xs.length ≤ 40000) (hw : ∀ x, wipe ((wipe σ vs).set j (some x)) vs = wipe σ vs)
    (he : ∀ (i : Nat) (x y : V) H1, Ex H H1 → xs[i]? = some x → ys[i]? = some y → Ev te ((wipe σ vs).set j (some x)) H1 y) : EvL (tLc (iList K tl) (gName j) tYes te vs) σ H ys := fun H0 e Q q => h H0 e _ fun H1 e1 => ⟨a, rfl, ⟨xs, ex_l (e.trans e1) hx⟩, fun Dl hD =>
  lc_list (xs := xs) (Cm H1 ys Dl) ⟨hD, Ex.new hD, upd_same⟩ (fun i H' _ p => ex_l ((e.trans e1).trans p.2.1) hx) (fun i x H' hi p => by
    obtain ⟨y, hy⟩ := get_of hn (List.getElem?_eq_some_iff.mp hi).1
    refine ⟨hw x, ?_⟩
    show te _ H' _
    exact cm_turn p (Ex.refl _) hy (by omega) (he i x y H1 (e.trans e1) hi hy)) (fun H' p => q Dl H' (fresh_back e1 p.1) (e1.trans p.2.1) (cm_end p hn))⟩
/-- over a range from 0 -/
theorem el_mapR {ta : TA} {j : Nat} {vs : List Nat} {n : Int} (ys : List V) (h : EvA ta σ H [.int n]) (hn : 0 ≤ n ∧ n ≤ 40000) (hl : ys.length = n.toNat) (hw : ∀ x, wipe ((wipe σ vs).set j (some x)) vs = wipe σ vs)
    (he : ∀ (i : Nat) (y : V) H1, Ex H H1 → (i : Int) < n → ys[i]? = some y → Ev te ((wipe σ vs).set j (some (.int (i : Int)))) H1 y) : EvL (tLc (iRng1 ta) (gName j) tYes te vs) σ H ys := fun H0 e Q q => h H0 e _ fun H1 e1 => ⟨n, rfl, by omega, by omega, fun Dl hD =>
  lc_range (lo := 0) (n := n.toNat) (Cm H1 ys Dl) ⟨hD, Ex.new hD, upd_same⟩ (fun i H' hi p => by
    obtain ⟨y, hy⟩ := get_of hl hi
    have e0 : (0 : Int) + (i : Int) = (i : Int) := Int.zero_add _
    show wipe ((wipe σ vs).set j (some (.int ((0 : Int) + (i : Int))))) vs = wipe σ vs ∧ te ((wipe σ vs).set j (some (.int ((0 : Int) + (i : Int))))) H' _
    rw [e0]
    exact ⟨hw _, cm_turn p (Ex.refl _) hy (by omega) (he i y H1 (e.trans e1) (by omega) hy)⟩) (fun H' p => q Dl H' (fresh_back e1 p.1) (e1.trans p.2.1) (cm_end p hl))⟩
/-- over zip of two lists, the target two names -/
theorem el_mapZ {ta : TA} {a b : Addr} {xs zs : List V} {i j : Nat} {vs : List Nat} (ys : List V) (h : EvA ta σ H [.ref a, .ref b]) (hx : SqL K H a xs) (hx2 : SqL K H b zs) (hl : xs.length = zs.length) (hn : ys.length = xs.length) (hz : xs.length ≤ 40000)
    (hw : ∀ x y, wipe (((wipe σ vs).set i (some x)).set j (some y)) vs = wipe σ vs)
    (he : ∀ (k : Nat) (x z y : V) H1, Ex H H1 → xs[k]? = some x → zs[k]? = some z → ys[k]? = some y → Ev te (((wipe σ vs).set i (some x)).set j (some z)) H1 y) : EvL (tLc (iZip K ta) (gTup K 2 (gCons (gName i) (gCons (gName j) gNil))) tYes te vs) σ H ys := fun H0 e Q q => h H0 e _ fun H1 e1 =>
  ⟨a, b, xs, zs, rfl, ex_l (e.trans e1) hx, ex_l (e.trans e1) hx2, fun Dl hD =>
  lc_it (walk_zip (n := xs.length) (by omega)) (Cm H1 ys Dl) ⟨hD, Ex.new hD, upd_same⟩ (fun k H' _ p => ⟨ex_l ((e.trans e1).trans p.2.1) hx, ex_l ((e.trans e1).trans p.2.1) hx2⟩) (fun k v H' H2 hk p yy => by
    obtain ⟨T, x, z, rfl, hT, rfl, g1, g2⟩ := yy
    obtain ⟨y, hy⟩ := get_of hn hk
    refine ⟨T, [x, z], rfl, st_of upd_same, rfl, x, [z], rfl, z, [], rfl, rfl, hw x z, ?_⟩
    show te _ _ _
    exact cm_turn p (Ex.new hT) hy (by omega) (he k x z y H1 (e.trans e1) g1 g2 hy)) (fun H' p => q Dl H' (fresh_back e1 p.1) (e1.trans p.2.1) (cm_end p hn))⟩
/-- a loop over zip of two lists, the target two names -/
theorem q_forZ {tz : TS} {D : Ends} {ta : TA} {tu : TS} {a b : Addr} {xs ys : List V} {i j : Nat} (h : EvA ta σ H [.ref a, .ref b]) (hx : SqL K H a xs) (hy : SqL K H b ys) (hl : xs.length = ys.length) (Pv : Nat → L2.St → Hp → Prop) (h0 : ∀ H1, Ex H H1 → Pv 0 σ H1)
    (hq : ∀ i σ' H', Pv i σ' H' → Ex H H')
    (hs : ∀ (n : Nat) (x y : V) (σ' : L2.St) (H' H2 : Hp), xs[n]? = some x → ys[n]? = some y → Pv n σ' H' → Ex H' H2 → tu { D with nx := Pv (n + 1), ct := Pv (n + 1), bk := tz D } ((σ'.set i (some x)).set j (some y)) H2) (hd : ∀ σ' H', Pv xs.length σ' H' → tz D σ' H') :
    tSeq (tFor (iZip K ta) (gTup K 2 (gCons (gName i) (gCons (gName j) gNil))) tu) tz D σ H :=
  h H (Ex.refl H) _ fun H1 e => ⟨a, b, xs, ys, rfl, ex_l e hx, ex_l e hy, for_it (walk_zip (n := xs.length) (by omega)) Pv (h0 H1 e) (fun k σ' H' _ p => ⟨ex_l (hq _ _ _ p) hx, ex_l (hq _ _ _ p) hy⟩) (fun n v σ' H' H2 hn p y => by
    obtain ⟨T, x, z, rfl, hT, rfl, e1, e2⟩ := y
    exact ⟨T, [x, z], rfl, st_of upd_same, rfl, x, [z], rfl, z, [], rfl, rfl, hs n x z σ' H' _ e1 e2 p (Ex.new hT)⟩) hd⟩
end
end SP

set_option maxHeartbeats 4000000
/-! binary heaps as lists: a swap, going down to a leaf, going up again -/
namespace HM
section
variable {α : Type} (le : α → α → Prop)
def Child (p c : Nat) : Prop := c = 2 * p + 1 ∨ c = 2 * p + 2
theorem Child.par {p c : Nat} (h : Child p c) : p = (c - 1) / 2 ∧ p < c := by
  unfold Child at h
  omega
theorem Child.of {c : Nat} (h : 0 < c) : Child ((c - 1) / 2) c := by
  unfold Child
  omega
theorem Child.uni {p q c : Nat} (h : Child p c) (h' : Child q c) : p = q := by
  unfold Child at h h'
  omega
inductive Sub (top : Nat) : Nat → Prop where
  | base : Sub top top
  | step {q c : Nat} : Sub top q → Child q c → Sub top c
theorem Sub.ge {top q : Nat} (h : Sub top q) : top ≤ q := by
  induction h with
  | base => exact Nat.le_refl _
  | step _ hc ih =>
    have := hc.par
    omega
theorem Sub.up {top c q : Nat} (h : Sub top c) (hc : Child q c) (hn : top < c) : Sub top q := by
  cases h with
  | base => omega
  | step h' hc' =>
    rw [hc.uni hc']
    exact h'
def Ok (g : Nat → α) (n top : Nat) : Prop := ∀ p c, c < n → Child p c → top ≤ p → le (g p) (g c)
def Dn (g : Nat → α) (n top pos : Nat) : Prop :=
  (∀ p c, c < n → Child p c → top ≤ p → p ≠ pos → c ≠ pos → le (g p) (g c)) ∧ ∀ q c, Child q pos → top ≤ q → c < n → Child pos c → le (g q) (g c)
def Up (g : Nat → α) (n top pos : Nat) : Prop :=
  (∀ p c, c < n → Child p c → top ≤ p → c ≠ pos → le (g p) (g c)) ∧ ∀ q c, Child q pos → top ≤ q → c < n → Child pos c → le (g q) (g c)
/-- i and j swapped -/
def sw (g : Nat → α) (i j : Nat) : Nat → α := fun k => if k = i then g j else if k = j then g i else g k
theorem sw_i (g : Nat → α) (i j : Nat) : sw g i j i = g j := by simp [sw]
theorem sw_j (g : Nat → α) (i j : Nat) : sw g i j j = g i := by
  unfold sw
  by_cases h : j = i
  · rw [if_pos h, h]
  · rw [if_neg h, if_pos rfl]
theorem sw_o (g : Nat → α) {i j k : Nat} (h1 : k ≠ i) (h2 : k ≠ j) : sw g i j k = g k := by
  unfold sw
  rw [if_neg h1, if_neg h2]
variable {le}
theorem down_step {g : Nat → α} {n top pos ch : Nat} (h : Dn le g n top pos) (ht : top ≤ pos) (hc : Child pos ch) (hn : ch < n) (hmin : ∀ c, c < n → Child pos c → le (g ch) (g c)) : Dn le (sw g ch pos) n top ch := by
  obtain ⟨h1, h2⟩ := h
  have hlt := hc.par
  refine ⟨fun p c hcn hpc htp hp hcc => ?_, fun q c hq htq hcn hcc => ?_⟩
  · by_cases e : p = pos
    · subst e
      rw [sw_j, sw_o g hcc (by have := hpc.par; omega)]
      exact hmin c hcn hpc
    · rw [sw_o g hp e]
      by_cases e2 : c = pos
      · subst e2
        rw [sw_j]
        exact h2 p ch hpc htp hn hc
      · rw [sw_o g hcc e2]
        exact h1 p c hcn hpc htp e e2
  · have e : q = pos := hq.uni hc
    subst e
    rw [sw_j, sw_o g (by have := hcc.par; omega) (by have := hcc.par; omega)]
    exact h1 ch c hcn hcc (by omega) (by omega) (by have := hcc.par; omega)
theorem down_end {g : Nat → α} {n top pos : Nat} (h : Dn le g n top pos) (hn : n ≤ 2 * pos + 1) : Up le g n top pos := by
  obtain ⟨h1, h2⟩ := h
  refine ⟨fun p c hcn hpc htp hc => ?_, h2⟩
  refine h1 p c hcn hpc htp (fun e => ?_) hc
  subst e
  unfold Child at hpc
  omega
theorem up_step (tr : ∀ x y z, le x y → le y z → le x z) {g : Nat → α} {n top pos q : Nat} (h : Up le g n top pos) (hpn : pos < n) (hq : Child q pos) (ht : top ≤ q) (hx : le (g pos) (g q)) : Up le (sw g q pos) n top q := by
  obtain ⟨h1, h2⟩ := h
  have hlt := hq.par
  refine ⟨fun p c hcn hpc htp hc => ?_, fun r c hr htr hcn hcc => ?_⟩
  · by_cases e : p = pos
    · subst e
      rw [sw_j, sw_o g (by have := hpc.par; omega) (by have := hpc.par; omega)]
      exact h2 q c hq ht hcn hpc
    · by_cases e2 : c = pos
      · subst e2
        have e3 : p = q := hpc.uni hq
        subst e3
        rw [sw_i, sw_j]
        exact hx
      · rw [sw_o g hc e2]
        by_cases e3 : p = q
        · subst e3
          rw [sw_i]
          exact tr _ _ _ hx (h1 p c hcn hpc htp e2)
        · rw [sw_o g e3 e]
          exact h1 p c hcn hpc htp e2
  · have hrq := hr.par
    rw [sw_o g (by omega) (by omega)]
    have a1 := h1 r q (by omega) hr htr (by omega)
    by_cases e : c = pos
    · subst e
      rw [sw_j]
      exact a1
    · rw [sw_o g (by have := hcc.par; omega) e]
      exact tr _ _ _ a1 (h1 q c hcn hcc ht e)
theorem up_end {g : Nat → α} {n top pos : Nat} (h : Up le g n top pos) (hx : ∀ q, Child q pos → top ≤ q → le (g q) (g pos)) : Ok le g n top := by
  intro p c hcn hpc htp
  by_cases e : c = pos
  · subst e
    exact hx p hpc htp
  · exact h.1 p c hcn hpc htp e
theorem next_dn {g : Nat → α} {n t : Nat} (h : Ok le g n (t + 1)) : Dn le g n t t := by
  refine ⟨fun p c hcn hpc htp hp hc => h p c hcn hpc (by omega), fun q c hq htq hcn hcc => ?_⟩
  have := hq.par
  omega
theorem root_least (rf : ∀ x, le x x) (tr : ∀ x y z, le x y → le y z → le x z) {g : Nat → α} {n : Nat} (h : Ok le g n 0) : ∀ i, i < n → le (g 0) (g i) := by
  intro i
  induction i using Nat.strongRecOn with
  | _ i ih =>
    intro hi
    by_cases e : i = 0
    · subst e
      exact rf _
    · have hc := Child.of (c := i) (by omega)
      have hl := hc.par
      exact tr _ _ _ (ih _ hl.2 (by omega)) (h _ _ hi hc (Nat.zero_le _))
theorem start_dn {g : Nat → α} {n : Nat} (hn : 2 ≤ n) : Dn le g n (n / 2 - 1) (n / 2 - 1) := by
  refine ⟨fun p c hcn hpc htp hp hc => ?_, fun q c hq htq hcn hcc => ?_⟩
  · unfold Child at hpc
    omega
  · have := hq.par
    omega
theorem ok_mono {g g' : Nat → α} {n top : Nat} (h : Ok le g n top) (e : ∀ i, i < n → g' i = g i) : Ok le g' n top := by
  intro p c hcn hpc htp
  have := hpc.par
  rw [e p (by omega), e c hcn]
  exact h p c hcn hpc htp
theorem push_up {g g' : Nat → α} {n : Nat} (h : Ok le g n 0) (e : ∀ i, i < n → g' i = g i) : Up le g' (n + 1) 0 n := by
  refine ⟨fun p c hcn hpc htp hc => ?_, fun q c hq htq hcn hcc => ?_⟩
  · have := hpc.par
    rw [e p (by omega), e c (by omega)]
    exact h p c (by omega) hpc htp
  · have := hcc.par
    omega
theorem pop_dn {g g' : Nat → α} {n : Nat} (h : Ok le g (n + 1) 0) (e : ∀ i, 0 < i → i < n → g' i = g i) : Dn le g' n 0 0 := by
  refine ⟨fun p c hcn hpc htp hp hc => ?_, fun q c hq htq hcn hcc => ?_⟩
  · have := hpc.par
    rw [e p (by omega) (by omega), e c (by omega) hcn]
    exact h p c (by omega) hpc htp
  · have := hq.par
    omega
end
/-! lists -/
section
variable {α : Type} {d : α}
def vw (d : α) (xs : List α) : Nat → α := fun i => xs.getD i d
/-- two places of a list swapped, the second's item first -/
def swL (xs : List α) (i j : Nat) (x y : α) : List α := (xs.set i y).set j x
theorem vw_at {xs : List α} {i : Nat} {x : α} (h : xs[i]? = some x) : vw d xs i = x := by
  unfold vw
  rw [List.getD_eq_getElem?_getD, h]
  rfl
theorem vw_set {xs : List α} {i k : Nat} {x : α} (hi : i < xs.length) : vw d (xs.set i x) k = if k = i then x else vw d xs k := by
  unfold vw
  rw [List.getD_eq_getElem?_getD, List.getD_eq_getElem?_getD, List.getElem?_set]
  by_cases e : k = i
  · subst e
    simp [hi]
  · rw [if_neg (Ne.symm e), if_neg e]
theorem vw_sw {xs : List α} {i j : Nat} {x y : α} (hx : xs[i]? = some x) (hy : xs[j]? = some y) : vw d (swL xs i j x y) = sw (vw d xs) i j := by
  funext k
  have hi := (List.getElem?_eq_some_iff.mp hx).1
  have hj := (List.getElem?_eq_some_iff.mp hy).1
  unfold swL
  rw [vw_set (by rw [List.length_set]; exact hj), vw_set hi]
  by_cases e1 : k = i
  · subst e1
    by_cases e2 : k = j
    · subst e2
      rw [if_pos rfl, sw_i, vw_at hx]
    · rw [if_neg e2, if_pos rfl, sw_i, vw_at hy]
  · by_cases e2 : k = j
    · subst e2
      rw [if_pos rfl, sw_j, vw_at hx]
    · rw [if_neg e2, if_neg e1, sw_o _ e1 e2]
theorem swL_len {xs : List α} {i j : Nat} {x y : α} : (swL xs i j x y).length = xs.length := by simp [swL]
theorem swL_perm {xs : List α} {i j : Nat} {x y : α} (hx : xs[i]? = some x) (hy : xs[j]? = some y) : (swL xs i j x y).Perm xs := by
  obtain ⟨hi, ex⟩ := List.getElem?_eq_some_iff.mp hx
  obtain ⟨hj, ey⟩ := List.getElem?_eq_some_iff.mp hy
  have h := List.set_set_perm hi hj
  unfold swL
  subst ex ey
  exact h
/-- the last item in the first one's place -/
theorem pop_perm {x l : α} {m : List α} : (x :: (m ++ [l])).Perm (x :: ((x :: m).set 0 l)) := by
  show (x :: (m ++ [l])).Perm (x :: (l :: m))
  exact List.Perm.cons _ (List.perm_append_comm (l₁ := m) (l₂ := [l]))
end
end HM

set_option maxHeartbeats 4000000
namespace HQ
open PySem L2 PyProof.Rows HM

abbrev Ky := Addr → Int × Int
def kl (kk : Ky) (a : Addr) : List Int := [(kk a).1, (kk a).2]
/-- a before b, or alike -/
def kle (kk : Ky) (a b : Addr) : Prop := (kk a).1 < (kk b).1 ∨ ((kk a).1 = (kk b).1 ∧ (kk a).2 ≤ (kk b).2)
theorem kl_lt (kk : Ky) (a b : Addr) : HT.lexLt (kl kk a) (kl kk b) = true ↔ ¬ kle kk b a := by
  unfold kl kle
  rw [HT.lexLt_cons, HT.lexLt_cons]
  by_cases h1 : (kk a).1 = (kk b).1
  · rw [if_pos h1]
    by_cases h2 : (kk a).2 = (kk b).2
    · rw [if_pos h2, HT.lexLt_nil_nil]
      constructor
      · intro h; cases h
      · intro h; exact absurd (Or.inr ⟨h1.symm, by omega⟩) h
    · rw [if_neg h2, decide_eq_true_eq]
      omega
  · rw [if_neg h1, decide_eq_true_eq]
    omega
theorem kle_rf (kk : Ky) (a : Addr) : kle kk a a := Or.inr ⟨rfl, Int.le_refl _⟩
theorem kle_tr (kk : Ky) (a b c : Addr) (h : kle kk a b) (h' : kle kk b c) : kle kk a c := by
  unfold kle at *
  omega
theorem kle_of_lt {kk : Ky} {a b : Addr} (h : HT.lexLt (kl kk a) (kl kk b) = true) : kle kk a b := by
  have := (kl_lt kk a b).mp h
  unfold kle at *
  omega
theorem kle_of_not {kk : Ky} {a b : Addr} (h : HT.lexLt (kl kk a) (kl kk b) = false) : kle kk b a := by
  rcases Classical.em (kle kk b a) with q | q
  · exact q
  · rw [(kl_lt kk a b).mpr q] at h
    cases h
/-! what a machine's turn is made of -/
def hItems (b : Addr) : Sem (Array Value) := seqItems? (.ref b) >>= fun | some ys => pure ys | _ => unsupported "internal:_heapq"
def hAt (ys : Array Value) (k : Nat) : Sem Value := match ys[k]? with | some u => pure u | none => unsupported "internal:_heapq.index"
def hSwap (b : Addr) (i j : Nat) : Sem Unit := hItems b >>= fun ys => hAt ys i >>= fun u => hAt ys j >>= fun v => updateSeq b fun zs => (zs.setIfInBounds i v).setIfInBounds j u
def hLess (b : Addr) (n : Nat) (u v : Value) : Sem Bool := holding [u, v] (richCompare .Lt u v >>= truthOfDropped) >>= fun r => hItems b >>= fun ys =>
  if (ys.size != n) = true then rule "_heapq.size-changed" >>= fun _ => raiseError "RuntimeError" "list changed size during iteration" >>= fun _ : Unit => pure r else pure r
def hCode (b : Addr) (dn : Bool) (p t : Nat) (r : Value) (k : Int) : Code := .builtin "_heapq.heapify.sift" ⟨[.ref b, .bool false, .bool dn, rawInt (p : Int), rawInt (t : Int), r, rawInt k], []⟩
theorem hCode_quiet (b : Addr) (dn : Bool) (p t : Nat) (r : Value) (k : Int) : (hCode b dn p t r k).quiet = true := plainId_quiet (id := "_heapq.heapify.sift") (by decide +kernel) _
/-- the pairs stand where the list says -/
def Keys (K : PySem.W.Frag) (H : Hp) (as : List Addr) (kk : Ky) : Prop := ∀ a ∈ as, SqT K H a ((kl kk a).map V.int)
theorem refs_of : ∀ {as : List Addr} {us : List Value}, Vals (as.map V.ref) us → us = as.map Value.ref
  | [], _, .nil => rfl
  | a :: as, _, .cons r t => by
    rw [refs_of t]
    cases r
    rfl
theorem vals_refs : ∀ as : List Addr, Vals (as.map V.ref) (as.map Value.ref)
  | [] => .nil
  | a :: as => .cons rfl (vals_refs as)
section
variable {X : Cx} {pins : List (Addr × Obj)} {σ : L2.St} {H : Hp} {s : Shared} {l : Addr} {as : List Addr} {kk : Ky} {A : Around}
theorem list_at (I : Inv X pins σ H s) (h : H l = some (.lst (as.map V.ref))) : ∃ n, s.heap.get? l = some { cls := .type "list", data := .seq (as.map Value.ref).toArray n } ∧ as.length ≤ sizeLine := by
  obtain ⟨its, n, r, e, z⟩ := I.lst h
  rw [refs_of r] at e
  exact ⟨n, e, by rwa [List.length_map] at z⟩
theorem keys_upd {as' : List Addr} (h : H l = some (.lst (as.map V.ref))) (k : Keys X.K H as' kk) (ys : List V) : Keys X.K (upd H l (.lst ys)) as' kk := by
  intro a ha
  rcases k a ha with q | q
  · refine Or.inl ?_
    rcases q with q | ⟨o, q⟩
    · exact Or.inl (by rw [upd_ne (ne_of q h fun z => nomatch z)]; exact q)
    · exact Or.inr ⟨o, by rw [upd_ne (ne_of q h fun z => nomatch z)]; exact q⟩
  · exact Or.inr q
theorem upd_self {o : HO} (h : H l = some o) : upd H l o = H := by
  funext b
  unfold upd
  by_cases e : b = l
  · rw [if_pos e, e, h]
  · rw [if_neg e]
/-- the smaller of two pairs -/
theorem less_run {a b : Addr} {E : Value → Shared → Prop} {Q : Bool → Shared → Prop} (I : Inv X pins σ H s) (ha : SqT X.K H a ((kl kk a).map V.int)) (hb : SqT X.K H b ((kl kk b).map V.int)) (hu : A.units < cLine)
    (h : Q (HT.lexLt (kl kk a) (kl kk b)) s) : wpAny (model X.prog X.w) A (holding [.ref a, .ref b] (richCompare .Lt (.ref a) (.ref b) >>= truthOfDropped)) Q E s := by
  obtain ⟨its, r1, p1, _⟩ := I.tuple ha
  obtain ⟨its2, r2, p2, _⟩ := I.tuple hb
  have i1 : IntsAre its.toArray.toList (kl kk a) := intsAre_of r1
  have i2 : IntsAre its2.toArray.toList (kl kk b) := intsAre_of r2
  refine wpAny_holding (wpAny_bind ?_)
  have g := HT.lt_tupInts (prog := X.prog) (w := X.w) (A := A) (E := E) (Q := fun v s' => wpAny (model X.prog X.w) A (truthOfDropped v) Q E s') p1 p2 i1 i2 hu (wpAny_truthy_bool h)
  exact g
theorem items_run {E : Value → Shared → Prop} {Q : Array Value → Shared → Prop} {ys : Array Value} {n : Nat} (e : s.heap.get? l = some { cls := .type "list", data := .seq ys n }) (q : Q ys s) : wpAny (model X.prog X.w) A (hItems l) Q E s := by
  unfold hItems seqItems?
  exact wpAny_bind (wpAny_bind (wpAny_load e (wpAny_pure (wpAny_pure q))))
theorem at_run {E : Value → Shared → Prop} {Q : Value → Shared → Prop} {ys : Array Value} {k : Nat} {u : Value} (e : ys[k]? = some u) (q : Q u s) : wpAny (model X.prog X.w) A (hAt ys k) Q E s := by
  unfold hAt
  rw [e]
  exact wpAny_pure q
theorem hless_run {a b : Addr} {E : Value → Shared → Prop} {Q : Bool → Shared → Prop} {ys : Array Value} {n k : Nat} (I : Inv X pins σ H s) (e : s.heap.get? l = some { cls := .type "list", data := .seq ys n }) (hn : ys.size = k) (ha : SqT X.K H a ((kl kk a).map V.int)) (hb : SqT X.K H b ((kl kk b).map V.int)) (hu : A.units < cLine)
    (h : Q (HT.lexLt (kl kk a) (kl kk b)) s) : wpAny (model X.prog X.w) A (hLess l k (.ref a) (.ref b)) Q E s := by
  unfold hLess
  refine wpAny_bind (less_run I ha hb hu (wpAny_bind (items_run e ?_)))
  rw [if_neg (by rw [hn]; simp)]
  exact wpAny_pure h
theorem swap_run {i j : Nat} {x y : Addr} {n : Nat} {E : Value → Shared → Prop} {Q : Unit → Shared → Prop} (e : s.heap.get? l = some { cls := .type "list", data := .seq (as.map Value.ref).toArray n }) (hz : as.length ≤ sizeLine)
    (hx : as[i]? = some x) (hy : as[j]? = some y) (h : Q () { s with heap := s.heap.update l (Obj.mapSeq fun xs => (xs.setIfInBounds i (.ref y)).setIfInBounds j (.ref x)) }) : wpAny (model X.prog X.w) A (hSwap l i j) Q E s := by
  unfold hSwap
  refine wpAny_bind (items_run e (wpAny_bind (at_run (u := .ref x) (by simp [hx]) (wpAny_bind (at_run (u := .ref y) (by simp [hy]) ?_)))))
  exact wpAny_updateSeq e rfl h (by simpa using hz) (by simp; omega)
theorem swap_inv {i j : Nat} {x y : Addr} {n : Nat} (I : Inv X pins σ H s) (hH : H l = some (.lst (as.map V.ref))) (e : s.heap.get? l = some { cls := .type "list", data := .seq (as.map Value.ref).toArray n }) (hz : as.length ≤ sizeLine) :
    Inv X pins σ (upd H l (.lst ((swL as i j x y).map V.ref))) { s with heap := s.heap.update l (Obj.mapSeq fun xs => (xs.setIfInBounds i (.ref y)).setIfInBounds j (.ref x)) } := by
  refine I.lset (its' := (swL as i j x y).map Value.ref) (t' := s.toks) hH e ?_ (vals_refs _) (by rw [List.length_map, swL_len]; exact hz)
  unfold swL
  simp
end
section
variable {X : Cx} {pins : List (Addr × Obj)} {σ : L2.St} {l : Addr} {kk : Ky} {A : Around}
/-- what is wanted behind a turn: the machine's next code at a state of ours, or the end -/
def Nxt (X : Cx) (pins : List (Addr × Obj)) (σ : L2.St) (l : Addr) (H : Hp) (P : Bool → Nat → Nat → Int → List Addr → Prop) (res : Value) (F : List Addr → Prop) : PySem.Fin → Shared → Prop := fun fin s' =>
  (∃ dn p t k as', fin = .again (hCode l dn p t res k) ∧ Inv X pins σ (upd H l (.lst (as'.map V.ref))) s' ∧ P dn p t k as') ∨ (∃ as', fin = .done (.ret res) ∧ Inv X pins σ (upd H l (.lst (as'.map V.ref))) s' ∧ F as')
theorem turn_down {as : List Addr} {H : Hp} {s : Shared} {pos top : Nat} {after : Int} {res : Value} {E : Value → Shared → Prop} {P : Bool → Nat → Nat → Int → List Addr → Prop} {F : List Addr → Prop} (I : Inv X pins σ H s) (hH : H l = some (.lst (as.map V.ref))) (hk : Keys X.K H as kk) (hu : A.units < cLine) (hp : pos < as.length)
    (h1 : as.length ≤ 2 * pos + 1 → P false pos top after as)
    (h2 : ∀ ch x y, Child pos ch → ch < as.length → as[ch]? = some x → as[pos]? = some y → (∀ c z, as[c]? = some z → Child pos c → kle kk x z) → P true ch top after (swL as ch pos x y)) :
    wpAny (model X.prog X.w) A (Builtin.«_heapq.heapify.sift» ⟨[.ref l, .bool false, .bool true, rawInt (pos : Int), rawInt (top : Int), res, rawInt after], []⟩) (Nxt X pins σ l H P res F) E s := by
  obtain ⟨n, e, hz⟩ := list_at I hH
  unfold Builtin.«_heapq.heapify.sift»
  dsimp only [rawInt]
  rw [Int.toNat_natCast pos, Int.toNat_natCast top]
  refine wpAny_bind (items_run e ?_)
  rw [if_pos rfl, List.size_toArray, List.length_map]
  have hpos : as[pos]? = some as[pos] := List.getElem?_eq_getElem hp
  by_cases c1 : pos < as.length / 2
  · rw [if_pos c1]
    have hl1 : 2 * pos + 1 < as.length := by omega
    have g1 : as[2 * pos + 1]? = some as[2 * pos + 1] := List.getElem?_eq_getElem hl1
    have kx := hk _ (List.getElem_mem hl1)
    have go1 : (∀ c z, as[c]? = some z → Child pos c → kle kk as[2 * pos + 1] z) → wpAny (model X.prog X.w) A (hSwap l (2 * pos + 1) pos >>= fun _ => again (hCode l true (2 * pos + 1) top res after)) (Nxt X pins σ l H P res F) E s := fun hm =>
      wpAny_bind (swap_run e hz g1 hpos (wpAny_pure (Or.inl ⟨_, _, _, _, _, rfl, swap_inv I hH e hz, h2 _ _ _ (Or.inl rfl) hl1 g1 hpos hm⟩)))
    by_cases c2 : 2 * pos + 1 + 1 < as.length
    · rw [if_pos c2]
      have g2 : as[2 * pos + 1 + 1]? = some as[2 * pos + 1 + 1] := List.getElem?_eq_getElem c2
      have ky := hk _ (List.getElem_mem c2)
      refine wpAny_bind (at_run (u := .ref as[2 * pos + 1]) (by simp) (wpAny_bind (at_run (u := .ref as[2 * pos + 1 + 1]) (by simp [c2]) ?_)))
      rw [if_neg Bool.false_ne_true]
      refine wpAny_bind (hless_run I e (by simp) kx ky hu ?_)
      cases hl : HT.lexLt (kl kk as[2 * pos + 1]) (kl kk as[2 * pos + 1 + 1]) with
      | true =>
        rw [if_neg (by decide)]
        refine go1 fun c z hc hcc => ?_
        rcases hcc with rfl | rfl
        · rw [g1] at hc
          cases hc
          exact kle_rf _ _
        · rw [show 2 * pos + 2 = 2 * pos + 1 + 1 from rfl, g2] at hc
          cases hc
          exact kle_of_lt hl
      | false =>
        rw [if_pos (by decide)]
        refine wpAny_bind (swap_run e hz g2 hpos (wpAny_pure (Or.inl ⟨_, _, _, _, _, rfl, swap_inv I hH e hz, h2 _ _ _ (Or.inr rfl) c2 g2 hpos fun c z hc hcc => ?_⟩)))
        rcases hcc with rfl | rfl
        · rw [g1] at hc
          cases hc
          exact kle_of_not hl
        · rw [show 2 * pos + 2 = 2 * pos + 1 + 1 from rfl, g2] at hc
          cases hc
          exact kle_rf _ _
    · rw [if_neg c2]
      refine go1 fun c z hc hcc => ?_
      rcases hcc with rfl | rfl
      · rw [g1] at hc
        cases hc
        exact kle_rf _ _
      · have := (List.getElem?_eq_some_iff.mp hc).1
        omega
  · rw [if_neg c1]
    refine wpAny_pure (Or.inl ⟨_, _, _, _, as, rfl, ?_, h1 (by omega)⟩)
    rw [upd_self hH]
    exact I
theorem turn_up {as : List Addr} {H : Hp} {s : Shared} {pos top : Nat} {after : Int} {res : Value} {E : Value → Shared → Prop} {P : Bool → Nat → Nat → Int → List Addr → Prop} {F : List Addr → Prop} (I : Inv X pins σ H s) (hH : H l = some (.lst (as.map V.ref))) (hk : Keys X.K H as kk) (hu : A.units < cLine) (hp : pos < as.length) (ht : top ≤ pos)
    (h1 : ∀ q x y, Child q pos → top < pos → as[q]? = some x → as[pos]? = some y → kle kk y x → P false q top after (swL as q pos x y))
    (h2 : (∀ q x y, Child q pos → top < pos → as[q]? = some x → as[pos]? = some y → kle kk x y) → after < 0 → F as)
    (h3 : (∀ q x y, Child q pos → top < pos → as[q]? = some x → as[pos]? = some y → kle kk x y) → 0 ≤ after → P true after.toNat after.toNat (after - 1) as) :
    wpAny (model X.prog X.w) A (Builtin.«_heapq.heapify.sift» ⟨[.ref l, .bool false, .bool false, rawInt (pos : Int), rawInt (top : Int), res, rawInt after], []⟩) (Nxt X pins σ l H P res F) E s := by
  obtain ⟨n, e, hz⟩ := list_at I hH
  unfold Builtin.«_heapq.heapify.sift»
  dsimp only [rawInt]
  rw [Int.toNat_natCast pos, Int.toNat_natCast top]
  refine wpAny_bind (items_run e ?_)
  rw [if_neg Bool.false_ne_true]
  have I0 : Inv X pins σ (upd H l (.lst (as.map V.ref))) s := by
    rw [upd_self hH]
    exact I
  have hpos : as[pos]? = some as[pos] := List.getElem?_eq_getElem hp
  have fin : (∀ q x y, Child q pos → top < pos → as[q]? = some x → as[pos]? = some y → kle kk x y) → wpAny (model X.prog X.w) A (if after < 0 then ret res else again (hCode l true after.toNat after.toNat res (after - 1))) (Nxt X pins σ l H P res F) E s := fun hm => by
    by_cases c2 : after < 0
    · rw [if_pos c2]
      exact wpAny_pure (Or.inr ⟨as, rfl, I0, h2 hm c2⟩)
    · rw [if_neg c2]
      exact wpAny_pure (Or.inl ⟨_, _, _, _, as, rfl, I0, h3 hm (by omega)⟩)
  by_cases c1 : pos > top
  · rw [if_pos c1]
    have hq : (pos - 1) / 2 < as.length := by omega
    have g1 : as[(pos - 1) / 2]? = some as[(pos - 1) / 2] := List.getElem?_eq_getElem hq
    refine wpAny_bind (at_run (u := .ref as[pos]) (by simp [hp]) (wpAny_bind (at_run (u := .ref as[(pos - 1) / 2]) (by simp [hq]) ?_)))
    rw [if_neg Bool.false_ne_true]
    refine wpAny_bind (hless_run I e (by simp) (hk _ (List.getElem_mem hp)) (hk _ (List.getElem_mem hq)) hu ?_)
    cases hl : HT.lexLt (kl kk as[pos]) (kl kk as[(pos - 1) / 2]) with
    | true =>
      rw [if_pos rfl]
      exact wpAny_bind (swap_run e hz g1 hpos (wpAny_pure (Or.inl ⟨_, _, _, _, _, rfl, swap_inv I hH e hz, h1 _ _ _ (Child.of (by omega)) c1 g1 hpos (kle_of_lt hl)⟩)))
    | false =>
      rw [if_neg Bool.false_ne_true]
      refine fin fun q x y hc _ hx hy => ?_
      rw [hc.par.1, g1] at hx
      rw [hpos] at hy
      cases hx
      cases hy
      exact kle_of_not hl
  · rw [if_neg c1]
    exact fin fun q x y hc h => absurd h (by omega)

/-- where the machine stands -/
def PI (kk : Ky) (dn : Bool) (p t : Nat) (k : Int) (as : List Addr) : Prop := p < as.length ∧ Sub t p ∧ k = (t : Int) - 1 ∧
  match dn with | true => Dn (kle kk) (vw 0 as) as.length t p | false => Up (kle kk) (vw 0 as) as.length t p
def mu (n : Nat) (dn : Bool) (p : Nat) (k : Int) : Nat := (k + 1).toNat * (2 * n + 3) + (match dn with | true => 2 * n + 1 - p | false => p)
/-- a heap -/
def Hq (kk : Ky) (as : List Addr) : Prop := HM.Ok (kle kk) (vw 0 as) as.length 0
theorem entry_sift : entryFor table "_heapq.heapify.sift" = some Builtin.«_heapq.heapify.sift» := entryFor_of_fast (by kernel_rfl)
theorem sift_run (hu : A.in1.units < cLine) {H0 : Hp} {as0 : List Addr} {R : Result → Shared → Prop} {res : Value} (hK : ∀ ys, Keys X.K (upd H0 l (.lst ys)) as0 kk)
    (fin : ∀ as' s', as'.Perm as0 → Hq kk as' → Inv X pins σ (upd H0 l (.lst (as'.map V.ref))) s' → R (.ok (.ret res)) s') :
    ∀ (m : Nat) (dn : Bool) (p t : Nat) (k : Int) (as : List Addr) (s : Shared), mu as.length dn p k < m → as.Perm as0 → PI kk dn p t k as → Inv X pins σ (upd H0 l (.lst (as.map V.ref))) s →
      codeAny (model X.prog X.w) A (hCode l dn p t res k) R s := by
  intro m
  induction m with
  | zero => intro dn p t k as s hm; omega
  | succ m ih =>
    intro dn p t k as s hm hp ⟨h1, h2, h3, h4⟩ I
    have hk : Keys X.K (upd H0 l (.lst (as.map V.ref))) as kk := fun a ha => hK _ a (hp.mem_iff.mp ha)
    have go : ∀ (f : PySem.Fin) (s' : Shared), Nxt X pins σ l (upd H0 l (.lst (as.map V.ref))) (fun dn p t k as' => as'.Perm as0 ∧ PI kk dn p t k as' ∧ mu as'.length dn p k < m) res (fun as' => as'.Perm as0 ∧ Hq kk as') f s' →
        match f with | .done f => R (.ok f) s' | .again c' => c'.quiet = true ∧ codeAny (model X.prog X.w) A c' R s' := fun f s' hN => by
      rcases hN with ⟨dn', p', t', k', as', rfl, I', hP⟩ | ⟨as', rfl, I', hF⟩
      · rw [upd_upd] at I'
        exact ⟨hCode_quiet _ _ _ _ _ _, ih dn' p' t' k' as' s' hP.2.2 hP.1 hP.2.1 I'⟩
      · rw [upd_upd] at I'
        exact fin as' s' hF.1 hF.2 I'
    refine codeAny_builtin entry_sift ?_
    rw [Around.under_plainId (id := "_heapq.heapify.sift") (by decide +kernel) _]
    have htp := h2.ge
    cases dn with
    | true =>
      refine wpAny_mono (turn_down (E := fun e s' => R (.error e) s') I upd_same hk hu h1 (fun hle => ?_) (fun ch x y hc hn hx hy hmin => ?_)) go (fun _ _ e => e)
      · refine ⟨hp, ⟨h1, h2, h3, down_end h4 hle⟩, ?_⟩
        unfold mu at hm ⊢
        dsimp only at hm ⊢
        omega
      · have hcp := hc.par
        refine ⟨(swL_perm hx hy).trans hp, ⟨by rw [swL_len]; exact hn, h2.step hc, h3, ?_⟩, ?_⟩
        · show Dn (kle kk) (vw 0 (swL as ch p x y)) (swL as ch p x y).length t ch
          rw [vw_sw hx hy, swL_len]
          refine down_step h4 htp hc hn fun c hcn hcc => ?_
          obtain ⟨z, hz⟩ : ∃ z, as[c]? = some z := ⟨_, List.getElem?_eq_getElem hcn⟩
          rw [vw_at hx, vw_at hz]
          exact hmin c z hz hcc
        · rw [swL_len]
          unfold mu at hm ⊢
          dsimp only at hm ⊢
          omega
    | false =>
      refine wpAny_mono (turn_up (E := fun e s' => R (.error e) s') I upd_same hk hu h1 htp (fun q x y hc ht hx hy hle => ?_) (fun hm2 hneg => ?_) (fun hm2 hpos => ?_)) go (fun _ _ e => e)
      · have hcp := hc.par
        have hs := h2.up hc ht
        refine ⟨(swL_perm hx hy).trans hp, ⟨by rw [swL_len]; omega, hs, h3, ?_⟩, ?_⟩
        · show Up (kle kk) (vw 0 (swL as q p x y)) (swL as q p x y).length t q
          rw [vw_sw hx hy, swL_len]
          exact up_step (kle_tr kk) h4 h1 hc hs.ge (by rw [vw_at hx, vw_at hy]; exact hle)
        · rw [swL_len]
          unfold mu at hm ⊢
          dsimp only at hm ⊢
          omega
      · have ht0 : t = 0 := by omega
        subst ht0
        refine ⟨hp, up_end h4 fun q hc htq => ?_⟩
        have hcp := hc.par
        have e1 : as[q]? = some as[q] := List.getElem?_eq_getElem (by omega)
        have e2 : as[p]? = some as[p] := List.getElem?_eq_getElem h1
        rw [vw_at e1, vw_at e2]
        exact hm2 q _ _ hc (by omega) e1 e2
      · have hok : HM.Ok (kle kk) (vw 0 as) as.length t := up_end h4 fun q hc htq => by
          have hcp := hc.par
          have e1 : as[q]? = some as[q] := List.getElem?_eq_getElem (by omega)
          have e2 : as[p]? = some as[p] := List.getElem?_eq_getElem h1
          rw [vw_at e1, vw_at e2]
          exact hm2 q _ _ hc (by omega) e1 e2
        have et : t = k.toNat + 1 := by omega
        rw [et] at hok
        refine ⟨hp, ⟨by omega, .base, by omega, next_dn hok⟩, ?_⟩
        unfold mu at hm ⊢
        dsimp only at hm ⊢
        have e3 : (k + 1).toNat = k.toNat + 1 := by omega
        have e4 : (k - 1 + 1).toNat = k.toNat := by omega
        rw [e3, Nat.succ_mul] at hm
        rw [e4]
        generalize k.toNat * (2 * as.length + 3) = M at hm ⊢
        omega
end
theorem kind_pop : builtinKind "_heapq.heappop" = none := by decide +kernel
theorem plain_pop : plainId "_heapq.heappop" = true := by decide +kernel
theorem entry_pop : entryFor table "_heapq.heappop" = some Builtin.«_heapq.heappop» := entryFor_of_fast (by kernel_rfl)
theorem args_pop (a : Value) : argsOk "_heapq.heappop" ⟨[a], []⟩ := by unfold argsOk; kernel_rfl
section
variable {X : Cx}
def rPop (K : PySem.W.Frag) : List V → Hp → VK → Prop := fun vs H Q => ∃ (l : Addr) (as : List Addr) (kk : Ky), vs = [.ref l] ∧ H l = some (.lst (as.map V.ref)) ∧ Keys K H as kk ∧ Hq kk as ∧ as ≠ [] ∧
  ∀ a as', as.Perm (a :: as') → (∀ b ∈ as, kle kk a b) → Hq kk as' → Q (.ref a) (upd H l (.lst (as'.map V.ref)))
theorem cr_heappop (hu : X.A.units + 2 < cLine) : CallR X (.builtin "_heapq.heappop") (rPop X.K) := by
  intro pins s σ H vs us Q I r h
  obtain ⟨l, as, kk, rfl, hH, hk, hq, hne, q⟩ := h
  obtain ⟨u, rfl, rx⟩ := vals1 r
  cases rx
  obtain ⟨n, e, hz⟩ := list_at I hH
  refine call_function_any kind_pop plain_pop entry_pop (args_pop _) ?_
  have f3 := AutoSeq1.sub_list_list
  have tl : s.TypeIs (.ref l) "list" := ⟨_, e, rfl⟩
  show wpAny _ _ (Builtin.«_heapq.heappop» ⟨[.ref l], []⟩) _ _ _
  wp_walk using wpAny_load e
  obtain ⟨init, z, rfl⟩ : ∃ init z, as = init ++ [z] := by
    rcases List.eq_nil_or_concat as with h | ⟨i, z, h⟩
    · exact absurd h hne
    · exact ⟨i, z, by simpa using h⟩
  have eb : ((init ++ [z]).map Value.ref).toArray.back? = some (.ref z) := by simp
  rw [eb]
  have hz0 : (init ++ [z]).length ≤ sizeLine := hz
  have hzi : init.length ≤ sizeLine := by
    rw [List.length_append] at hz
    omega
  have I1 : L2.Inv X pins σ (upd H l (.lst (init.map V.ref))) { s with heap := s.heap.update l (Obj.mapSeq fun x => x.pop) } :=
    I.lset (its' := init.map Value.ref) (t' := s.toks) hH e (by simp) (vals_refs _) (by rw [List.length_map]; exact hzi)
  refine wpAny_bind (wpAny_updateSeq e rfl ?_ (by rw [List.size_toArray, List.length_map]; exact hz0) (by simp; omega))
  cases init with
  | nil =>
    rw [if_pos (by simp)]
    refine wpAny_pure ⟨.ref z, _, I1, rfl, q z [] (List.Perm.refl _) (fun b hb => ?_) ?_⟩
    · have : b = z := by simpa using hb
      rw [this]
      exact kle_rf _ _
    · intro p c hc
      exact absurd hc (Nat.not_lt_zero _)
  | cons x m =>
    rw [if_neg (by simp)]
    have g0 : ((x :: m ++ [z]).map Value.ref).toArray[0]? = some (.ref x) := by simp
    refine wpAny_bind (at_run (X := X) (ys := ((x :: m ++ [z]).map Value.ref).toArray) (k := 0) g0 ?_)
    obtain ⟨n1, e1, hz1⟩ := list_at I1 upd_same
    have I2 : L2.Inv X pins σ (upd H l (.lst ((z :: m).map V.ref))) { s with heap := (s.heap.update l (Obj.mapSeq fun x => x.pop)).update l (Obj.mapSeq fun x => x.setIfInBounds 0 (.ref z)) } := by
      have I2 := I1.lset (its' := (z :: m).map Value.ref) (ys := (z :: m).map V.ref) (f := fun x => x.setIfInBounds 0 (.ref z)) (t' := s.toks) upd_same e1 (by simp) (vals_refs _) (by simpa using hz1)
      rw [upd_upd] at I2
      exact I2
    refine wpAny_bind (wpAny_updateSeq e1 rfl ?_ (by rw [List.size_toArray, List.length_map]; exact hz1) (by have h9 := hz1; simp at h9 ⊢; omega))
    refine wpAny_pure (a := PySem.Fin.again (hCode l true 0 0 (.ref x) (-1))) ⟨hCode_quiet _ _ _ _ _ _, ?_⟩
    have hperm : (x :: m ++ [z]).Perm (x :: (z :: m)) := List.Perm.cons _ (List.perm_append_comm (l₁ := m) (l₂ := [z]))
    refine sift_run (A := X.A) (by show X.A.units + 1 < _; omega) (H0 := H) (as0 := z :: m) (kk := kk) (fun ys a ha => keys_upd hH hk ys a (hperm.mem_iff.mpr (List.mem_cons_of_mem _ ha))) (fun as' s' hp' hq' I' => ?_) _ true 0 0 (-1) (z :: m) _ (Nat.lt_succ_self _) (List.Perm.refl _) ⟨by simp, .base, rfl, ?_⟩ I2
    · refine ⟨.ref x, _, I', rfl, q x as' (hperm.trans (List.Perm.cons _ hp'.symm)) (fun b hb => ?_) hq'⟩
      obtain ⟨i, hi, ei⟩ := List.mem_iff_getElem.mp hb
      have h1 := root_least (kle_rf kk) (kle_tr kk) hq i hi
      rw [vw_at (x := x) (by simp), vw_at (x := b) (by rw [List.getElem?_eq_getElem hi, ei])] at h1
      exact h1
    · show Dn (kle kk) (vw 0 (z :: m)) (z :: m).length 0 0
      have hq2 : HM.Ok (kle kk) (vw 0 (x :: m ++ [z])) (m.length + 1 + 1) 0 := by
        have : (x :: m ++ [z]).length = m.length + 1 + 1 := by simp
        unfold Hq at hq
        rw [this] at hq
        exact hq
      refine pop_dn hq2 fun i h0 hi => ?_
      obtain ⟨j, rfl⟩ : ∃ j, i = j + 1 := ⟨i - 1, by omega⟩
      have hj : j < m.length := by
        rw [List.length_cons] at hi
        omega
      rw [vw_at (x := m[j]) (by rw [List.getElem?_cons_succ, List.getElem?_eq_getElem hj]), vw_at (x := m[j]) (by rw [List.cons_append, List.getElem?_cons_succ, List.getElem?_append_left hj, List.getElem?_eq_getElem hj])]

theorem kind_push : builtinKind "_heapq.heappush" = none := by decide +kernel
theorem plain_push : plainId "_heapq.heappush" = true := by decide +kernel
theorem entry_push : entryFor table "_heapq.heappush" = some Builtin.«_heapq.heappush» := entryFor_of_fast (by kernel_rfl)
theorem args_push (a b : Value) : argsOk "_heapq.heappush" ⟨[a, b], []⟩ := by unfold argsOk; kernel_rfl
def rPush (K : PySem.W.Frag) : List V → Hp → VK → Prop := fun vs H Q => ∃ (l x : Addr) (as : List Addr) (kk : Ky), vs = [.ref l, .ref x] ∧ H l = some (.lst (as.map V.ref)) ∧ Keys K H (x :: as) kk ∧ Hq kk as ∧ as.length < sizeLine ∧
  ∀ as', as'.Perm (x :: as) → Hq kk as' → Q .non (upd H l (.lst (as'.map V.ref)))
theorem cr_heappush (hu : X.A.units + 2 < cLine) : CallR X (.builtin "_heapq.heappush") (rPush X.K) := by
  intro pins s σ H vs us Q I r h
  obtain ⟨l, x, as, kk, rfl, hH, hk, hq, hlt, q⟩ := h
  obtain ⟨u, u2, rfl, rx, ry⟩ := vals2 r
  cases rx
  cases ry
  obtain ⟨n, e, hz⟩ := list_at I hH
  refine call_function_any kind_push plain_push entry_push (args_push _ _) ?_
  have f3 := AutoSeq1.sub_list_list
  have tl : s.TypeIs (.ref l) "list" := ⟨_, e, rfl⟩
  show wpAny _ _ (Builtin.«_heapq.heappush» ⟨[.ref l, .ref x], []⟩) _ _ _
  have I1 : L2.Inv X pins σ (upd H l (.lst ((as ++ [x]).map V.ref))) { s with heap := s.heap.update l (Obj.mapSeq fun ys => ys.push (.ref x)) } :=
    I.lset (its' := (as ++ [x]).map Value.ref) (t' := s.toks) hH e (by simp) (vals_refs _) (by rw [List.length_map, List.length_append]; exact hlt)
  obtain ⟨n1, e1, hz1⟩ := list_at I1 upd_same
  have hs1 : (as.map Value.ref).toArray.size ≤ sizeLine := by simpa using hz
  have hs2 : ((as.map Value.ref).toArray.push (.ref x)).size ≤ sizeLine + 1 := by simp; omega
  wp_walk using wpAny_load e, wpAny_load e1, (wpAny_updateSeq e rfl (hz := hs1) (_hz' := hs2))
  show (hCode l false ((List.map Value.ref (as ++ [x])).toArray.size - 1) 0 .none (-1)).quiet = true ∧ codeAny (model X.prog X.w) X.A (hCode l false ((List.map Value.ref (as ++ [x])).toArray.size - 1) 0 .none (-1)) _ _
  have es : (List.map Value.ref (as ++ [x])).toArray.size - 1 = as.length := by simp
  rw [es]
  have hperm : (as ++ [x]).Perm (x :: as) := List.perm_append_comm (l₁ := as) (l₂ := [x])
  have sub0 : ∀ c, Sub 0 c := fun c => by
    induction c using Nat.strongRecOn with
    | _ c ih =>
      by_cases h0 : c = 0
      · rw [h0]
        exact .base
      · have hc := Child.of (c := c) (by omega)
        exact .step (ih _ hc.par.2) hc
  refine ⟨hCode_quiet _ _ _ _ _ _, sift_run (A := X.A) (by show X.A.units + 1 < _; omega) (H0 := H) (as0 := as ++ [x]) (kk := kk) (fun ys a ha => keys_upd hH hk ys a (hperm.mem_iff.mp ha)) (fun as' s' hp' hq' I' => ?_) _ false as.length 0 (-1) (as ++ [x]) _ (Nat.lt_succ_self _) (List.Perm.refl _) ⟨by simp, sub0 _, rfl, ?_⟩ I1⟩
  · exact ⟨.non, _, I', rfl, q as' (hp'.trans hperm) hq'⟩
  · show Up (kle kk) (vw 0 (as ++ [x])) (as ++ [x]).length 0 as.length
    rw [List.length_append]
    refine push_up hq fun i hi => ?_
    rw [vw_at (x := as[i]) (by rw [List.getElem?_append_left hi, List.getElem?_eq_getElem hi]), vw_at (x := as[i]) (by rw [List.getElem?_eq_getElem hi])]
theorem kind_ify : builtinKind "_heapq.heapify" = none := by decide +kernel
theorem plain_ify : plainId "_heapq.heapify" = true := by decide +kernel
theorem entry_ify : entryFor table "_heapq.heapify" = some Builtin.«_heapq.heapify» := entryFor_of_fast (by kernel_rfl)
theorem args_ify (a : Value) : argsOk "_heapq.heapify" ⟨[a], []⟩ := by unfold argsOk; kernel_rfl
def rIfy (K : PySem.W.Frag) : List V → Hp → VK → Prop := fun vs H Q => ∃ (l : Addr) (as : List Addr) (kk : Ky), vs = [.ref l] ∧ H l = some (.lst (as.map V.ref)) ∧ Keys K H as kk ∧ as.length ≤ 2500 ∧
  ∀ as', as'.Perm as → Hq kk as' → Q .non (upd H l (.lst (as'.map V.ref)))
theorem cr_heapify (hu : X.A.units + 2 < cLine) : CallR X (.builtin "_heapq.heapify") (rIfy X.K) := by
  intro pins s σ H vs us Q I r h
  obtain ⟨l, as, kk, rfl, hH, hk, hlt, q⟩ := h
  obtain ⟨u, rfl, rx⟩ := vals1 r
  cases rx
  obtain ⟨n, e, hz⟩ := list_at I hH
  refine call_function_any kind_ify plain_ify entry_ify (args_ify _) ?_
  have f3 := AutoSeq1.sub_list_list
  have tl : s.TypeIs (.ref l) "list" := ⟨_, e, rfl⟩
  show wpAny _ _ (Builtin.«_heapq.heapify» ⟨[.ref l], []⟩) _ _ _
  have h25 : ¬ (as.map Value.ref).toArray.size > 2500 := by simp; omega
  wp_walk using wpAny_load e
  have es : (as.map Value.ref).toArray.size = as.length := by simp
  rw [es]
  by_cases h2 : as.length < 2
  · rw [if_pos h2]
    refine wpAny_pure ⟨.non, _, I, rfl, ?_⟩
    have := q as (List.Perm.refl _) (fun p c hc hpc => by have := hpc.par; omega)
    rw [upd_self hH] at this
    exact this
  · rw [if_neg h2]
    refine wpAny_pure (a := PySem.Fin.again (hCode l true (as.length / 2 - 1) (as.length / 2 - 1) .none (((as.length / 2 : Nat) : Int) - 2))) ⟨hCode_quiet _ _ _ _ _ _, ?_⟩
    have I0 : L2.Inv X pins σ (upd H l (.lst (as.map V.ref))) s := by
      rw [upd_self hH]
      exact I
    refine sift_run (A := X.A) (by show X.A.units + 1 < _; omega) (H0 := H) (as0 := as) (kk := kk) (fun ys a ha => keys_upd hH hk ys a ha) (fun as' s' hp' hq' I' => ⟨.non, _, I', rfl, q as' hp' hq'⟩) _ true _ _ _ as _ (Nat.lt_succ_self _) (List.Perm.refl _) ⟨by omega, .base, by omega, start_dn (by omega)⟩ I0
end

theorem hu2 {A : Around} {k : Nat} (hr : Room k A) : A.units + 2 < cLine := by
  have := hr.un
  omega
theorem hq_congr {kk kk' : Ky} {as : List Addr} (h : Hq kk as) (e : ∀ a ∈ as, kk' a = kk a) : Hq kk' as := by
  intro p c hc hpc ht
  have hp := hpc.par
  have h0 := h p c hc hpc ht
  have e1 : as[p]? = some as[p] := List.getElem?_eq_getElem (by omega)
  have e2 : as[c]? = some as[c] := List.getElem?_eq_getElem hc
  rw [vw_at e1, vw_at e2] at h0 ⊢
  unfold kle at h0 ⊢
  rw [e _ (List.getElem_mem _), e _ (List.getElem_mem _)]
  exact h0
theorem keys_congr {K : PySem.W.Frag} {H : Hp} {kk kk' : Ky} {as : List Addr} (h : Keys K H as kk) (e : ∀ a ∈ as, kk' a = kk a) : Keys K H as kk' := fun a ha => by
  unfold kl
  rw [e a ha]
  exact h a ha
end HQ

set_option maxHeartbeats 4000000
/-! pairing over a list kept in order: the mathematics -/
namespace HF
/-- a node: its weight, its number -/
abbrev Nd := Int × Int
def nle (a b : Nd) : Prop := a.1 < b.1 ∨ (a.1 = b.1 ∧ a.2 ≤ b.2)
instance (a b : Nd) : Decidable (nle a b) := inferInstanceAs (Decidable (a.1 < b.1 ∨ (a.1 = b.1 ∧ a.2 ≤ b.2)))
theorem nle_tr {a b c : Nd} (h : nle a b) (h' : nle b c) : nle a c := by
  unfold nle at *
  omega
theorem nle_tot (a b : Nd) : nle a b ∨ nle b a := by
  unfold nle
  omega
theorem nle_anti {a b : Nd} (h : nle a b) (h' : nle b a) : a = b := by
  unfold nle at *
  exact Prod.ext (by omega) (by omega)
def ins (x : Nd) : List Nd → List Nd
  | [] => [x]
  | y :: r => if nle x y then x :: y :: r else y :: ins x r
def srt : List Nd → List Nd
  | [] => []
  | x :: r => ins x (srt r)
def Sorted : List Nd → Prop
  | [] => True
  | x :: r => (∀ y ∈ r, nle x y) ∧ Sorted r
theorem ins_perm (x : Nd) : ∀ l, (ins x l).Perm (x :: l)
  | [] => List.Perm.refl _
  | y :: r => by
    unfold ins
    split
    · exact List.Perm.refl _
    · exact (List.Perm.cons y (ins_perm x r)).trans (List.Perm.swap x y r)
theorem ins_len (x : Nd) (l : List Nd) : (ins x l).length = l.length + 1 := (ins_perm x l).length_eq
theorem ins_sorted (x : Nd) : ∀ {l}, Sorted l → Sorted (ins x l)
  | [], _ => ⟨fun y hy => (nomatch hy), True.intro⟩
  | y :: r, ⟨h1, h2⟩ => by
    unfold ins
    split
    · rename_i h
      exact ⟨fun z hz => by
        rcases List.mem_cons.mp hz with rfl | hz
        · exact h
        · exact nle_tr h (h1 z hz), h1, h2⟩
    · rename_i h
      refine ⟨fun z hz => ?_, ins_sorted x h2⟩
      rcases List.mem_cons.mp ((ins_perm x r).mem_iff.mp hz) with rfl | hz
      · exact (nle_tot z y).resolve_left h
      · exact h1 z hz
theorem srt_perm : ∀ l, (srt l).Perm l
  | [] => List.Perm.refl _
  | x :: r => (ins_perm x (srt r)).trans (List.Perm.cons x (srt_perm r))
theorem srt_sorted : ∀ l, Sorted (srt l)
  | [] => True.intro
  | x :: r => ins_sorted x (srt_sorted r)
theorem srt_len (l : List Nd) : (srt l).length = l.length := (srt_perm l).length_eq
/-- the least of a heap is the first in order -/
theorem least_is {a : Nd} {l fr : List Nd} (hp : (a :: l).Perm fr) (hm : ∀ b ∈ a :: l, nle a b) (hs : Sorted fr) : ∃ r, fr = a :: r ∧ l.Perm r ∧ Sorted r := by
  cases fr with
  | nil => exact absurd hp.length_eq (by simp)
  | cons b r =>
    obtain ⟨h1, h2⟩ := hs
    have e : a = b := by
      refine nle_anti (hm b (hp.mem_iff.mpr List.mem_cons_self)) ?_
      rcases List.mem_cons.mp (hp.mem_iff.mp List.mem_cons_self) with e | h
      · rw [e]
        rcases nle_tot b b with h | h <;> exact h
      · exact h1 a h
    subst e
    exact ⟨r, rfl, hp.cons_inv, h2⟩
/-- the pairs, in the order in which they are made; k: the next number -/
def huff : Nat → List Nd → Int → List (Int × Int)
  | f + 1, a :: b :: r, k => (a.2, b.2) :: huff f (ins (a.1 + b.1, k) r) (k + 1)
  | _, _, _ => []
theorem huff_two (a b : Nd) (r : List Nd) (k : Int) : huff (a :: b :: r).length (a :: b :: r) k = (a.2, b.2) :: huff (ins (a.1 + b.1, k) r).length (ins (a.1 + b.1, k) r) (k + 1) := by
  rw [ins_len]
  rfl
theorem huff_end {fr : List Nd} (h : fr.length ≤ 1) (k : Int) (f : Nat) : huff f fr k = [] := by
  cases f with
  | zero => rfl
  | succ f =>
    match fr, h with
    | [], _ => rfl
    | [_], _ => rfl
    | _ :: _ :: _, h => simp at h
def nodes (ns : List Int) : List Nd := ns.zipIdx.map fun p => (p.1, (p.2 : Int))
def made (ns : List Int) : List (Int × Int) := huff ns.length (srt (nodes ns)) ns.length
theorem nodes_len (ns : List Int) : (nodes ns).length = ns.length := by simp [nodes]
theorem made_eq (ns : List Int) : made ns = huff (srt (nodes ns)).length (srt (nodes ns)) ns.length := by
  rw [srt_len, nodes_len]
  rfl
theorem nodes_at {ns : List Int} {i : Nat} {x : Int} (h : ns[i]? = some x) : (nodes ns)[i]? = some (x, (i : Int)) := by
  unfold nodes
  rw [List.getElem?_map, List.getElem?_zipIdx, h]
  simp
theorem huff_len : ∀ (m : Nat) (fr : List Nd) (k : Int), fr.length = m → (huff fr.length fr k).length = fr.length - 1
  | 0, fr, k, h => by rw [huff_end (by omega)]; simp; omega
  | 1, fr, k, h => by rw [huff_end (by omega)]; simp; omega
  | m + 2, fr, k, h => by
    match fr, h with
    | a :: b :: r, h =>
      rw [huff_two, List.length_cons, huff_len (m + 1) _ _ (by rw [ins_len]; simpa using h), ins_len]
      simp
theorem made_len (ns : List Int) : (made ns).length = ns.length - 1 := by
  rw [made_eq, huff_len _ _ _ rfl, srt_len, nodes_len]
end HF

set_option maxHeartbeats 4000000
namespace SP
open PySem L2 Evl
/-- pairs of ints that stand at the addresses -/
def Rws (H : Hp) (ts : List Addr) (rows : List (Int × Int)) : Prop := ts.length = rows.length ∧ ∀ (i : Nat) t r, ts[i]? = some t → rows[i]? = some r → H t = some (.tup [.int r.1, .int r.2])
theorem Rws.ex {H H' : Hp} {ts : List Addr} {rows : List (Int × Int)} (h : Rws H ts rows) (e : Ex H H') : Rws H' ts rows := ⟨h.1, fun i t r h1 h2 => e _ _ (h.2 i t r h1 h2)⟩
theorem Rws.nil {H : Hp} : Rws H [] [] := ⟨rfl, fun i t r h => by simp at h⟩
theorem Rws.snoc {H : Hp} {ts : List Addr} {rows : List (Int × Int)} {t : Addr} {r : Int × Int} (h : Rws H ts rows) (ht : H t = some (.tup [.int r.1, .int r.2])) : Rws H (ts ++ [t]) (rows ++ [r]) := by
  refine ⟨by rw [List.length_append, List.length_append, h.1]; rfl, fun i u q h1 h2 => ?_⟩
  by_cases hi : i < ts.length
  · rw [List.getElem?_append_left hi] at h1
    rw [List.getElem?_append_left (by rw [← h.1]; exact hi)] at h2
    exact h.2 i u q h1 h2
  · rw [List.getElem?_append_right (by omega)] at h1
    rw [List.getElem?_append_right (by rw [← h.1]; omega), ← h.1] at h2
    have hz : i - ts.length = 0 := by
      have := (List.getElem?_eq_some_iff.mp h1).1
      simp at this
      omega
    rw [hz] at h1 h2
    cases h1
    cases h2
    exact ht
/-- a list is changed: the tuples stand -/
theorem Rws.upd {H : Hp} {ts : List Addr} {rows : List (Int × Int)} {l : Addr} {xs ys : List V} (h : Rws H ts rows) (hl : H l = some (.lst xs)) : Rws (upd H l (.lst ys)) ts rows :=
  ⟨h.1, fun i t r h1 h2 => by rw [upd_ne (ne_of (h.2 i t r h1 h2) hl fun z => nomatch z)]; exact h.2 i t r h1 h2⟩
/-- a new list of pairs -/
def RetR (rows : List (Int × Int)) (H : Hp) (Q : VK) : Prop := ∀ (p : Addr) (ts : List Addr) H2, H p = none → Ex H H2 → H2 p = some (.lst (ts.map V.ref)) → Rws H2 ts rows → Q (.ref p) H2
section
variable {K : PySem.W.Frag} {σ : L2.St} {H H' : Hp} {ta tb te tx : TE} {t u : TT} {x y z v : V} {D : Ends} {tz : TS}
/-- name = [(.., ..) for number, item in enumerate(list)]: a new list of new tuples -/
theorem q_enumTups {ta : TA} {a : Addr} {xs : List V} {i j slot : Nat} {vs : List Nat} (f : Nat → List V) (h : EvA ta σ H [.ref a]) (hx : SqL K H a xs) (hz : xs.length ≤ 40000) (hw : ∀ x y, wipe (((wipe σ vs).set i (some x)).set j (some y)) vs = wipe σ vs)
    (he : ∀ (k : Nat) (x : V) H1, Ex H H1 → xs[k]? = some x → EvU te (((wipe σ vs).set i (some (.int (k : Int)))).set j (some x)) H1 (f k))
    (kk : ∀ (p : Addr) (ts : List Addr) H1, H p = none → Ex H H1 → H1 p = some (.lst (ts.map V.ref)) → ts.length = xs.length → (∀ (k : Nat) t, ts[k]? = some t → H1 t = some (.tup (f k))) → tz D (σ.set slot (some (.ref p))) H1) :
    tSeq (tAsg (tLc (iEnum K ta) (gTup K 2 (gCons (gName i) (gCons (gName j) gNil))) tYes te vs) (gName slot)) tz D σ H :=
  h H (Ex.refl H) _ fun H1 e1 => ⟨a, xs, rfl, ex_l e1 hx, fun Dl hD =>
    lc_it walk_enum (fun n H' => H1 Dl = none ∧ Ex H1 H' ∧ ∃ ts : List Addr, ts.length = n ∧ H' Dl = some (.lst (ts.map V.ref)) ∧ ∀ (k : Nat) t, ts[k]? = some t → H' t = some (.tup (f k)))
      ⟨hD, Ex.new hD, [], rfl, upd_same, fun k t hk => by simp at hk⟩ (fun k H' _ p => ex_l (e1.trans p.2.1) hx) (fun k v H' H2 hk p yy => by
        obtain ⟨T, x, z, rfl, hT, rfl, g1, g2⟩ := yy
        obtain ⟨p1, p2, ts, p3, p4, p5⟩ := p
        cases g1
        refine ⟨T, [_, z], rfl, st_of upd_same, rfl, _, [z], rfl, z, [], rfl, rfl, hw _ z, ?_⟩
        show te _ _ _
        have eT := Ex.new (o := .tup [.int (k : Int), z]) hT
        refine he k z H1 e1 g2 _ (p2.trans eT) _ fun q H3 hq e3 h3 => ?_
        have h4 := e3 _ _ (eT _ _ p4)
        refine ⟨ts.map V.ref, h4, sz_lt (by rw [List.length_map]; omega), p1, Ex.mut ((p2.trans eT).trans e3) p1, ts ++ [q], by rw [List.length_append, p3]; rfl, ?_, fun k2 t hk2 => ?_⟩
        · rw [upd_same, List.map_append]
          rfl
        · have aux : ∀ {t o}, H3 t = some (.tup o) → upd H3 Dl (.lst (ts.map V.ref ++ [V.ref q])) t = some (.tup o) := fun {t o} ht => by
            rw [upd_ne (ne_of ht h4 fun z => nomatch z)]
            exact ht
          by_cases hlt : k2 < ts.length
          · rw [List.getElem?_append_left hlt] at hk2
            exact aux (e3 _ _ (eT _ _ (p5 k2 t hk2)))
          · rw [List.getElem?_append_right (by omega)] at hk2
            have hz0 : k2 - ts.length = 0 := by
              have := (List.getElem?_eq_some_iff.mp hk2).1
              simp at this
              omega
            rw [hz0] at hk2
            cases hk2
            have : k2 = k := by omega
            rw [this]
            exact aux h3) (fun H' p => by
        obtain ⟨p1, p2, ts, p3, p4, p5⟩ := p
        exact kk Dl ts H' (fresh_back e1 p1) (e1.trans p2) p4 p3 p5)⟩
end
open HQ in
/-- tuples of two ints stand at the addresses -/
def KeysT (H : Hp) (as : List Addr) (kk : Ky) : Prop := ∀ a ∈ as, H a = some (.tup [.int (kk a).1, .int (kk a).2])
section
open HQ
variable {K : PySem.W.Frag} {σ : L2.St} {H H' : Hp} {te : TE} {D : Ends} {tz : TS} {l : Addr} {as as' : List Addr} {kk : Ky}
theorem KeysT.k (h : KeysT H as kk) : Keys K H as kk := fun a ha => st_of (h a ha)
theorem KeysT.ex (h : KeysT H as kk) (e : Ex H H') : KeysT H' as kk := fun a ha => e _ _ (h a ha)
theorem KeysT.upd {xs ys : List V} (h : KeysT H as kk) (hl : H l = some (.lst xs)) : KeysT (upd H l (.lst ys)) as kk := fun a ha => by
  rw [upd_ne (ne_of (h a ha) hl fun z => nomatch z)]
  exact h a ha
theorem KeysT.sub (h : KeysT H as kk) (hs : ∀ a ∈ as', a ∈ as) : KeysT H as' kk := fun a ha => h a (hs a ha)
theorem q_pop {n i j : Nat} (ha : σ[n]? = some (some (.ref l))) (hl : H l = some (.lst (as.map V.ref))) (hk : KeysT H as kk) (hq : Hq kk as) (hne : as ≠ [])
    (k : ∀ a as', as.Perm (a :: as') → (∀ b ∈ as, kle kk a b) → Hq kk as' → KeysT (L2.upd H l (.lst (as'.map V.ref))) as' kk → tz D ((σ.set i (some (.int (kk a).1))).set j (some (.int (kk a).2))) (L2.upd H l (.lst (as'.map V.ref)))) :
    tSeq (tAsg (tCB (rPop K) (tCons (tVar n) tNil)) (gTup K 2 (gCons (gName i) (gCons (gName j) gNil)))) tz D σ H :=
  ⟨.ref l, ha, l, as, kk, rfl, hl, hk.k, hq, hne, fun a as' hp hm hq' =>
    ⟨a, [.int (kk a).1, .int (kk a).2], rfl, st_of (hk.upd hl a (hp.mem_iff.mpr List.mem_cons_self)), rfl, _, [_], rfl, _, [], rfl, rfl,
      k a as' hp hm hq' ((hk.upd hl).sub fun b hb => hp.mem_iff.mpr (List.mem_cons_of_mem _ hb))⟩⟩
/-- a new pair's key beside the others -/
def kkx (kk : Ky) (x : Addr) (w : Int × Int) : Ky := fun a => if a = x then w else kk a
theorem kkx_x {kk : Ky} {x : Addr} {w : Int × Int} : kkx kk x w x = w := if_pos rfl
theorem kkx_o {kk : Ky} {x a : Addr} {w : Int × Int} (h : a ≠ x) : kkx kk x w a = kk a := if_neg h
theorem q_push {n : Nat} {w k : Int} (ha : σ[n]? = some (some (.ref l))) (hl : H l = some (.lst (as.map V.ref))) (he : EvU te σ H [.int w, .int k]) (hk : KeysT H as kk) (hq : Hq kk as) (hlt : as.length < 100000)
    (c : ∀ x H1 as', H x = none → Ex H H1 → as'.Perm (x :: as) → (∀ a ∈ as, kkx kk x (w, k) a = kk a) → Hq (kkx kk x (w, k)) as' → KeysT (L2.upd H1 l (.lst (as'.map V.ref))) as' (kkx kk x (w, k)) → tz D σ (L2.upd H1 l (.lst (as'.map V.ref)))) :
    tSeq (tDrop (tCB (rPush K) (tCons (tVar n) (tCons te tNil)))) tz D σ H :=
  ⟨.ref l, ha, he H (Ex.refl H) _ fun x H1 hx e1 h1 => by
    have hne : ∀ a ∈ as, kkx kk x (w, k) a = kk a := fun a hm => kkx_o (ne_of_none (hk a hm) hx)
    have hk2 : KeysT H1 (x :: as) (kkx kk x (w, k)) := fun a hm => by
      rcases List.mem_cons.mp hm with e | hm
      · rw [e, kkx_x]
        exact h1
      · rw [hne a hm]
        exact e1 _ _ (hk a hm)
    exact ⟨l, x, as, kkx kk x (w, k), rfl, e1 _ _ hl, hk2.k, hq_congr hq hne, sz_lt hlt, fun as' hp hq' => c x H1 as' hx e1 hp hne hq' ((hk2.upd (e1 _ _ hl)).sub fun a hm => hp.mem_iff.mp hm)⟩⟩
end
end SP

set_option maxHeartbeats 4000000
namespace SP
open PySem L2 Evl
/-- a text by its signs -/
def tx (l : List Nat) : Str := ⟨l.toArray⟩
theorem tx_cps (l : List Nat) : (tx l).cps.toList = l := by simp [tx]
theorem tx_len (l : List Nat) : (tx l).length = l.length := by simp [tx, Str.length]
theorem tx_app (a b : List Nat) : tx a ++ tx b = tx (a ++ b) := by
  show (⟨a.toArray ++ b.toArray⟩ : Str) = ⟨(a ++ b).toArray⟩
  simp
theorem tx_inj {a b : List Nat} (h : tx a = tx b) : a = b := by
  have := congrArg (fun z : Str => z.cps.toList) h
  simpa [tx] using this
theorem tx_one (c : Nat) : (⟨#[c]⟩ : Str) = tx [c] := rfl
theorem occ_count (x : Str) (c : Nat) : ∀ (k i : Nat) (st : Array Nat × Nat), i + k = x.cps.toList.length + 1 → st.fst.size ≤ i → st.snd ≤ i →
    (forIn (List.range' i k) st (StrLaws.occBody x ⟨#[c]⟩ x.length (x.length + 1))).run.fst.size = st.fst.size + (x.cps.toList.drop i).count c
  | 0, i, st, h, _, _ => by
    rw [List.drop_of_length_le (by omega)]
    rfl
  | k + 1, i, st, h, h1, h2 => by
    have hl : x.length = x.cps.toList.length := by simp [Str.length]
    rw [List.range'_succ, List.forIn_cons]
    unfold StrLaws.occBody
    have key := StrLaws.subAt_one x c i
    by_cases hc : x.cps.toList[i]? = some c
    · obtain ⟨k1, k2⟩ := key.mpr hc
      have hi : i < x.cps.toList.length := (List.getElem?_eq_some_iff.mp hc).1
      rw [if_pos ⟨⟨⟨by rw [hl]; omega, h2⟩, k1⟩, k2⟩]
      have ih := occ_count x c k (i + 1) (st.fst.push i, i + (⟨#[c]⟩ : Str).length) (by omega) (by simp; omega) (by show i + 1 ≤ i + 1; omega)
      refine Eq.trans ih ?_
      have e : x.cps.toList.drop i = c :: x.cps.toList.drop (i + 1) := by
        rw [List.drop_eq_getElem_cons hi]
        congr 1
        exact (List.getElem?_eq_some_iff.mp hc).2
      rw [e, List.count_cons]
      simp
      omega
    · rw [if_neg (fun z => hc (key.mp ⟨z.1.2, z.2⟩))]
      have ih := occ_count x c k (i + 1) st (by omega) (by omega) (by omega)
      refine Eq.trans ih ?_
      congr 1
      by_cases hi : i < x.cps.toList.length
      · rw [List.drop_eq_getElem_cons hi, List.count_cons, if_neg (fun z => hc (by rw [List.getElem?_eq_getElem hi, eq_of_beq z]))]
        rfl
      · rw [List.drop_of_length_le (by omega), List.drop_of_length_le (by omega)]
theorem count_one (l : List Nat) (c : Nat) : Txt.count (tx l) (tx [c]) = ((l.count c : Nat) : Int) := by
  show (((Builtin.Str.occurrences (tx l) ⟨#[c]⟩ 0 (tx l).length ((tx l).length + 1)).length : Nat) : Int) = _
  rw [StrLaws.occ_eq, Array.length_toList]
  have h := occ_count (tx l) c ((tx l).length + 1) 0 (#[], 0) (by rw [tx_cps, tx_len]; omega) (Nat.le_refl _) (Nat.le_refl _)
  rw [tx_cps, List.drop_zero] at h
  exact congrArg (fun n : Nat => (n : Int)) (h.trans (by simp))
theorem join_ones : ∀ l : List Nat, Txt.join (tx []) (l.map fun c => tx [c]) = tx l := fun l => by
  show Builtin.Str.glued _ _ = _
  rw [StrLaws.glued_eq_join]
  induction l with
  | nil => rfl
  | cons a r ih =>
    cases r with
    | nil => rfl
    | cons b r =>
      show tx [a] ++ tx [] ++ Str.join (tx []) ((b :: r).map fun c => tx [c]) = tx (a :: b :: r)
      rw [ih, tx_app, tx_app]
      rfl
section
variable {K : PySem.W.Frag} {σ : L2.St} {H H' : Hp} {ta tb te tx' : TE} {t u : TT} {x y z v : V}
/-- a method of a text -/
theorem ev_bmS {r : V → List V → Hp → VK → Prop} {s : Str} {ta : TA} {vs : List V} (ho : Ev te σ H (.str s)) (ha : EvA ta σ H vs) (hr : ∀ H1, Ex H H1 → ∀ Q : VK, (∀ H2, Ex H1 H2 → Q z H2) → r (.str s) vs H1 Q) : Ev (tBM K "str" r te ta) σ H z := fun H1 e Q q =>
  ho H1 e _ fun H2 e2 => ⟨rfl, ha H2 (e.trans e2) _ fun H3 e3 => hr H3 ((e.trans e2).trans e3) Q fun H4 e4 => q H4 ((e2.trans e3).trans e4)⟩
/-- sep.join(a new list of texts) -/
theorem ev_joinN {sep : Str} {ys : List Str} (ho : Ev te σ H (.str sep)) (hl : EvL tb σ H (ys.map V.str)) (hz : (ys.map (·.length)).sum + ys.length * sep.length ≤ 16777216) :
    Ev (tBM K "str" (fun x xs H Q => ∃ a p, ∃ ys : List Str, x = .str a ∧ xs = [.ref p] ∧ (SqL K H p (ys.map V.str) ∨ SqT K H p (ys.map V.str)) ∧ (ys.map (·.length)).sum + ys.length * a.length ≤ 16777216 ∧ Q (.str (Txt.join a ys)) H) te (tCons tb tNil)) σ H (.str (Txt.join sep ys)) := fun H1 e Q q =>
  ho H1 e _ fun H2 e2 => ⟨rfl, hl H2 (e.trans e2) _ fun p H3 _ e3 h3 => ⟨sep, p, ys, rfl, rfl, .inl (sq_of h3), hz, q H3 (e2.trans e3)⟩⟩
/-- a for over a text, the target a name -/
theorem q_forS {tz : TS} {D : Ends} {tu : TS} {j : Nat} {l : List Nat} (h : Ev te σ H (.str (tx l))) (Pv : Nat → L2.St → Hp → Prop) (h0 : ∀ H1, Ex H H1 → Pv 0 σ H1)
    (hs : ∀ (n : Nat) (c : Nat) (σ' : L2.St) (H' : Hp), l[n]? = some c → Pv n σ' H' → tu { D with nx := Pv (n + 1), ct := Pv (n + 1), bk := tz D } (σ'.set j (some (.str (tx [c])))) H') (hd : ∀ σ' H', Pv l.length σ' H' → tz D σ' H') :
    tSeq (tFor (iStr te) (gName j) tu) tz D σ H :=
  h H (Ex.refl H) _ fun H1 e => ⟨tx l, rfl, for_it walk_str Pv (h0 H1 e) (fun _ _ _ _ _ => True.intro) (fun n v σ' H' H2 hn p y => by
    obtain ⟨rfl, c, hc, rfl⟩ := y
    refine hs n c σ' H2 ?_ p
    rw [← hc]
    simp [tx]) (by
    have e : (tx l).cps.size = l.length := by simp [tx]
    rw [e]
    exact hd)⟩
theorem s_forS {D : Ends} {tu : TS} {j : Nat} {l : List Nat} (h : Ev te σ H (.str (tx l))) (Pv : Nat → L2.St → Hp → Prop) (h0 : ∀ H1, Ex H H1 → Pv 0 σ H1)
    (hs : ∀ (n : Nat) (c : Nat) (σ' : L2.St) (H' : Hp), l[n]? = some c → Pv n σ' H' → tu { D with nx := Pv (n + 1), ct := Pv (n + 1), bk := D.nx } (σ'.set j (some (.str (tx [c])))) H') (hd : ∀ σ' H', Pv l.length σ' H' → D.nx σ' H') :
    tFor (iStr te) (gName j) tu D σ H := q_forS (tz := fun D => D.nx) h Pv h0 hs hd
/-- a comprehension over a text -/
theorem el_mapS {j : Nat} {vs : List Nat} {l : List Nat} (ys : List V) (h : Ev tb σ H (.str (tx l))) (hn : ys.length = l.length) (hz : l.length ≤ 40000) (hw : ∀ x, wipe ((wipe σ vs).set j (some x)) vs = wipe σ vs)
    (he : ∀ (i c : Nat) (y : V) H1, Ex H H1 → l[i]? = some c → ys[i]? = some y → Ev te ((wipe σ vs).set j (some (.str (tx [c])))) H1 y) : EvL (tLc (iStr tb) (gName j) tYes te vs) σ H ys := fun H0 e Q q => h H0 e _ fun H1 e1 => ⟨tx l, rfl, fun Dl hD =>
  lc_it walk_str (Cm H1 ys Dl) ⟨hD, Ex.new hD, upd_same⟩ (fun _ _ _ _ => True.intro) (fun i v H' H2 hi p yy => by
    obtain ⟨rfl, c, hc, rfl⟩ := yy
    have hc' : l[i]? = some c := by
      rw [← hc]
      simp [tx]
    obtain ⟨y, hy⟩ := get_of hn (List.getElem?_eq_some_iff.mp hc').1
    refine ⟨hw _, ?_⟩
    show te _ H2 _
    exact cm_turn p (Ex.refl _) hy (by omega) (he i c y H1 (e.trans e1) hc' hy)) (fun H' p => by
    have ec : (tx l).cps.size = l.length := by simp [tx]
    rw [ec] at p
    exact q Dl H' (fresh_back e1 p.1) (e1.trans p.2.1) (cm_end p hn))⟩
end
end SP

set_option maxHeartbeats 4000000
/-! the law's own walk over the pairs: the mathematics -/
namespace HF
def key (W : List Int) (k : Int) : Nd := (W.getD k.toNat 0, k)
def Least (W L : List Int) (o t : Int) : Prop := o ∈ L ∧ t ∈ L ∧ o ≠ t ∧ nle (key W o) (key W t) ∧ ∀ k ∈ L, k ≠ o → nle (key W t) (key W k)
def keep (o t : Int) : Int → Bool := fun k => (!decide (k = o)) && (!decide (k = t))
structure At3 (n i : Nat) (W L : List Int) (rest : List (Int × Int)) : Prop where
  wl : W.length = n + i
  ll : L.length + i = n
  nd : L.Nodup
  rg : ∀ k ∈ L, 0 ≤ k ∧ k < (W.length : Int)
  st : ∃ fr, (L.map (key W)).Perm fr ∧ Sorted fr ∧ rest = huff fr.length fr ((n : Int) + (i : Int))
theorem key_inj {W : List Int} {k j : Int} (h : key W k = key W j) : k = j := congrArg Prod.snd h
theorem nodup_key {W L : List Int} (h : L.Nodup) : (L.map (key W)).Nodup := by
  induction L with
  | nil => exact List.nodup_nil
  | cons k r ih =>
    obtain ⟨h1, h2⟩ := List.nodup_cons.mp h
    rw [List.map_cons]
    refine List.nodup_cons.mpr ⟨fun hm => ?_, ih h2⟩
    obtain ⟨j, hj, e⟩ := List.mem_map.mp hm
    exact h1 (by rw [← key_inj e]; exact hj)
theorem keep_perm {L : List Int} {o t : Int} (hn : L.Nodup) (ho : o ∈ L) (ht : t ∈ L) (hne : o ≠ t) : L.Perm (o :: t :: L.filter (keep o t)) := by
  have h1 := List.perm_cons_erase ho
  have h2 : t ∈ L.erase o := (List.mem_erase_of_ne (Ne.symm hne)).mpr ht
  have h3 := List.perm_cons_erase h2
  have e : (L.erase o).erase t = L.filter (keep o t) := by
    rw [List.Nodup.erase_eq_filter (List.Nodup.erase o hn), List.Nodup.erase_eq_filter hn, List.filter_filter]
    refine List.filter_congr fun k _ => ?_
    unfold keep
    by_cases e1 : k = o <;> by_cases e2 : k = t <;> simp [e1, e2]
  rw [e] at h3
  exact h1.trans (List.Perm.cons o h3)
theorem key_old {W : List Int} {k w : Int} (h0 : 0 ≤ k) (h : k < (W.length : Int)) : key (W ++ [w]) k = key W k := by
  unfold key
  rw [List.getD_eq_getElem?_getD, List.getD_eq_getElem?_getD, List.getElem?_append_left (by omega)]
theorem key_new {W : List Int} {w : Int} : key (W ++ [w]) (W.length : Int) = (w, (W.length : Int)) := by
  unfold key
  rw [List.getD_eq_getElem?_getD, Int.toNat_natCast, List.getElem?_append_right (Nat.le_refl _)]
  simp
theorem at3_start (ns : List Int) : At3 ns.length 0 ns ((List.range ns.length).map fun k : Nat => (k : Int)) (made ns) where
  wl := rfl
  ll := by simp
  nd := by
    refine List.pairwise_map.mpr (List.Pairwise.imp ?_ List.nodup_range)
    intro a b h e
    have e2 : (a : Int) = (b : Int) := e
    omega
  rg := fun k hk => by
    obtain ⟨j, hj, rfl⟩ := List.mem_map.mp hk
    have := List.mem_range.mp hj
    omega
  st := ⟨srt (nodes ns), by
    have e : ((List.range ns.length).map fun k : Nat => (k : Int)).map (key ns) = nodes ns := by
      refine List.ext_getElem? fun i => ?_
      rw [List.map_map, List.getElem?_map]
      by_cases hi : i < ns.length
      · rw [List.getElem?_range hi, nodes_at (List.getElem?_eq_getElem hi)]
        simp [key, List.getD_eq_getElem?_getD, List.getElem?_eq_getElem hi]
      · rw [List.getElem?_eq_none (by rw [List.length_range]; omega), List.getElem?_eq_none (by rw [nodes_len]; omega)]
        rfl
    rw [e]
    exact (srt_perm _).symm, srt_sorted _, by rw [made_eq]; simp⟩
theorem at3_step {n i : Nat} {W L : List Int} {o t : Int} {rest : List (Int × Int)} (h : At3 n i W L ((o, t) :: rest)) :
    Least W L o t ∧ At3 n (i + 1) (W ++ [W.getD o.toNat 0 + W.getD t.toNat 0]) (L.filter (keep o t) ++ [(W.length : Int)]) rest := by
  obtain ⟨wl, ll, nd, rg, fr, hp, hs, hr⟩ := h
  match fr, hp, hs, hr with
  | [], _, _, hr => rw [huff_end (by simp)] at hr; cases hr
  | [_], _, _, hr => rw [huff_end (by simp)] at hr; cases hr
  | a :: b :: r, hp, ⟨s1, s2, s3⟩, hr =>
    rw [huff_two] at hr
    injection hr with hr1 hr2
    injection hr1 with eo et
    obtain ⟨ko, hko, eko⟩ := List.mem_map.mp (hp.mem_iff.mpr (List.mem_cons_self))
    obtain ⟨kt, hkt, ekt⟩ := List.mem_map.mp (hp.mem_iff.mpr (List.mem_cons_of_mem a (List.mem_cons_self)))
    have e1 : ko = o := by rw [eo, ← eko]; rfl
    have e2 : kt = t := by rw [et, ← ekt]; rfl
    subst e1 e2
    have ndf : (a :: b :: r).Nodup := hp.nodup_iff.mp (nodup_key nd)
    have hne : ko ≠ kt := fun e => by
      rw [e, ekt] at eko
      exact (List.nodup_cons.mp ndf).1 (by rw [← eko]; exact List.mem_cons_self)
    refine ⟨⟨hko, hkt, hne, ?_, fun k hk hkn => ?_⟩, ?_⟩
    · rw [eko, ekt]
      exact s1 b List.mem_cons_self
    · rw [ekt]
      have hm := hp.mem_iff.mp (List.mem_map_of_mem (f := key W) hk)
      rcases List.mem_cons.mp hm with e | hm
      · exact absurd (key_inj (e.trans eko.symm)) hkn
      · rcases List.mem_cons.mp hm with e | hm
        · rw [e]
          rcases nle_tot b b with h | h <;> exact h
        · exact s2 _ hm
    · have kp := keep_perm nd hko hkt hne
      have kl := kp.length_eq
      rw [List.length_cons, List.length_cons] at kl
      refine ⟨by rw [List.length_append, wl]; simp; omega, by rw [List.length_append]; simp; omega, ?_, fun k hk => ?_, ins (a.1 + b.1, (n : Int) + (i : Int)) r, ?_, ins_sorted _ s3, ?_⟩
      · refine List.nodup_append.mpr ⟨List.Pairwise.filter _ nd, by simp, fun k hk j hj => ?_⟩
        have h1 := rg k (List.mem_filter.mp hk).1
        have h2 : j = (W.length : Int) := by simpa using hj
        omega
      · rw [List.length_append]
        rcases List.mem_append.mp hk with hk | hk
        · have h1 := rg k (List.mem_filter.mp hk).1
          simp
          omega
        · have h2 : k = (W.length : Int) := by simpa using hk
          simp
          omega
      · have pr : ((L.filter (keep ko kt)).map (key W)).Perm r := by
          have h1 := (kp.map (key W)).symm.trans hp
          rw [List.map_cons, List.map_cons, eko, ekt] at h1
          exact h1.cons_inv.cons_inv
        have em : (L.filter (keep ko kt)).map (key (W ++ [W.getD ko.toNat 0 + W.getD kt.toNat 0])) = (L.filter (keep ko kt)).map (key W) := by
          refine List.map_congr_left fun k hk => ?_
          have h1 := rg k (List.mem_filter.mp hk).1
          exact key_old h1.1 h1.2
        rw [List.map_append, em]
        show (_ ++ [key (W ++ [W.getD ko.toNat 0 + W.getD kt.toNat 0]) (W.length : Int)]).Perm _
        rw [key_new]
        have ea : W.getD ko.toNat 0 = a.1 := by rw [← eko]; rfl
        have eb : W.getD kt.toNat 0 = b.1 := by rw [← ekt]; rfl
        rw [ea, eb, wl]
        refine List.Perm.trans ?_ (ins_perm _ _).symm
        refine List.perm_append_comm.trans ?_
        show ((a.1 + b.1, ((n + i : Nat) : Int)) :: _).Perm _
        rw [show ((n + i : Nat) : Int) = (n : Int) + (i : Int) by omega]
        exact List.Perm.cons _ pr
      · rw [hr2]
        congr 1
end HF

set_option maxHeartbeats 4000000
/-! the codes: the mathematics -/
namespace HF
abbrev Wd := List (List Nat)
def wat (D : Wd) (k : Int) : List Nat := D.getD k.toNat []
/-- one pair's both, behind the pair's own way -/
def put (D : Wd) (b : Nat) (r : Int × Int) : Wd := (D.set r.1.toNat (wat D (b : Int) ++ [48])).set r.2.toNat (wat D (b : Int) ++ [49])
/-- from the last pair on; b: the first pair's number -/
def fill : Nat → List (Int × Int) → Wd → Wd
  | _, [], D => D
  | b, r :: rest, D => put (fill (b + 1) rest D) b r
theorem put_len (D : Wd) (b : Nat) (r : Int × Int) : (put D b r).length = D.length := by simp [put]
theorem fill_len : ∀ (rest : List (Int × Int)) (b : Nat) (D : Wd), (fill b rest D).length = D.length
  | [], _, _ => rfl
  | r :: rest, b, D => by
    show (put (fill (b + 1) rest D) b r).length = _
    rw [put_len, fill_len rest]
theorem wat_set {D : Wd} {i : Nat} {z : List Nat} {k : Int} (hk : 0 ≤ k) (hi : i < D.length) : wat (D.set i z) k = if k = (i : Int) then z else wat D k := by
  unfold wat
  rw [List.getD_eq_getElem?_getD, List.getD_eq_getElem?_getD, List.getElem?_set]
  by_cases e : i = k.toNat
  · have ek : k = (i : Int) := by omega
    rw [if_pos e, if_pos ek, if_pos hi]
    rfl
  · rw [if_neg e, if_neg (by omega)]
theorem put_at {D : Wd} {b : Nat} {o t k : Int} (ho : 0 ≤ o) (ho2 : o < (D.length : Int)) (ht : 0 ≤ t) (ht2 : t < (D.length : Int)) (hk : 0 ≤ k) :
    wat (put D b (o, t)) k = if k = t then wat D (b : Int) ++ [49] else if k = o then wat D (b : Int) ++ [48] else wat D k := by
  unfold put
  rw [wat_set hk (by rw [List.length_set]; show t.toNat < D.length; omega), wat_set hk (by show o.toNat < D.length; omega)]
  have e1 : ((t.toNat : Nat) : Int) = t := by omega
  have e2 : ((o.toNat : Nat) : Int) = o := by omega
  show (if k = ((t.toNat : Nat) : Int) then _ else if k = ((o.toNat : Nat) : Int) then _ else _) = _
  rw [e1, e2]
/-- where the pairs are gone through, with the newest node still there -/
def At4 (n i : Nat) (W L : List Int) (rest : List (Int × Int)) : Prop := At3 n i W L rest ∧ ((n + i : Nat) : Int) - 1 ∈ L
theorem at4_start {ns : List Int} (h : 1 ≤ ns.length) : At4 ns.length 0 ns ((List.range ns.length).map fun k : Nat => (k : Int)) (made ns) :=
  ⟨at3_start ns, List.mem_map.mpr ⟨ns.length - 1, List.mem_range.mpr (by omega), by omega⟩⟩
theorem at4_step {n i : Nat} {W L : List Int} {o t : Int} {rest : List (Int × Int)} (h : At4 n i W L ((o, t) :: rest)) :
    Least W L o t ∧ At4 n (i + 1) (W ++ [W.getD o.toNat 0 + W.getD t.toNat 0]) (L.filter (keep o t) ++ [((n + i : Nat) : Int)]) rest := by
  obtain ⟨h1, h2⟩ := at3_step h.1
  have e := h.1.wl
  rw [e] at h2
  exact ⟨h1, h2, List.mem_append_right _ (by simp; omega)⟩
theorem at4_end {n i : Nat} {W L : List Int} (h : At4 n i W L []) : L = [((n + i : Nat) : Int) - 1] ∧ i + 1 = n := by
  obtain ⟨⟨wl, ll, nd, rg, fr, hp, hs, hr⟩, hm⟩ := h
  have hl : fr.length ≤ 1 := by
    match fr, hr with
    | [], _ => simp
    | [_], _ => simp
    | a :: b :: r, hr =>
      rw [huff_two] at hr
      cases hr
  have hL : L.length ≤ 1 := by
    rw [← List.length_map (f := key W), hp.length_eq]
    exact hl
  match L, hm, hL, ll with
  | [x], hm, _, ll =>
    have : ((n + i : Nat) : Int) - 1 = x := by simpa using hm
    rw [this]
    exact ⟨rfl, by simp at ll; omega⟩
  | [], hm, _, _ => simp at hm
  | _ :: _ :: _, _, hL, _ => simp at hL
/-- how many pairs are left -/
theorem at4_rest {n : Nat} : ∀ {rest : List (Int × Int)} {i : Nat} {W L : List Int}, At4 n i W L rest → i + 1 + rest.length = n
  | [], i, W, L, h => by
    have := (at4_end h).2
    simp
    omega
  | (o, t) :: rest, i, W, L, h => by
    have := at4_rest (at4_step h).2
    rw [List.length_cons]
    omega
/-- the step, seen from the words -/
structure StepW (n i : Nat) (L : List Int) (o t : Int) (D D' : Wd) : Prop where
  o_in : o ∈ L
  t_in : t ∈ L
  ne : o ≠ t
  olt : 0 ≤ o ∧ o < ((n + i : Nat) : Int)
  tlt : 0 ≤ t ∧ t < ((n + i : Nat) : Int)
  wo : wat D' o = wat D ((n + i : Nat) : Int) ++ [48]
  wt : wat D' t = wat D ((n + i : Nat) : Int) ++ [49]
  wk : ∀ k, 0 ≤ k → k ≠ o → k ≠ t → wat D' k = wat D k
theorem step_w {n i : Nat} {W L : List Int} {o t : Int} {rest : List (Int × Int)} {D0 : Wd} (h : At4 n i W L ((o, t) :: rest)) (hD : D0.length = n + (n - 1)) :
    StepW n i L o t (fill (n + i + 1) rest D0) (fill (n + i) ((o, t) :: rest) D0) := by
  obtain ⟨⟨h1, h2, h3, h4, h5⟩, h6⟩ := at4_step h
  have r1 := h.1.rg o h1
  have r2 := h.1.rg t h2
  have wl := h.1.wl
  have hr := at4_rest h
  rw [List.length_cons] at hr
  rw [wl] at r1 r2
  have hl : (fill (n + i + 1) rest D0).length = n + (n - 1) := by rw [fill_len, hD]
  have pa : ∀ k, 0 ≤ k → wat (fill (n + i) ((o, t) :: rest) D0) k = if k = t then wat (fill (n + i + 1) rest D0) ((n + i : Nat) : Int) ++ [49] else if k = o then wat (fill (n + i + 1) rest D0) ((n + i : Nat) : Int) ++ [48] else wat (fill (n + i + 1) rest D0) k := fun k hk =>
    put_at r1.1 (by rw [hl]; omega) r2.1 (by rw [hl]; omega) hk
  refine ⟨h1, h2, h3, r1, r2, ?_, ?_, fun k hk k1 k2 => ?_⟩
  · rw [pa o r1.1, if_neg h3, if_pos rfl]
  · rw [pa t r2.1, if_pos rfl]
  · rw [pa k hk, if_neg k2, if_neg k1]

/-! the way from the top -/
def nxt (rows : List (Int × Int)) (n : Nat) (node : Int) (b : Nat) : Int := if b = 48 then (rows.getD (node - n).toNat (0, 0)).1 else (rows.getD (node - n).toNat (0, 0)).2
def walkF (rows : List (Int × Int)) (n : Nat) : Int → List Nat → Int
  | node, [] => node
  | node, b :: w => if node < (n : Int) ∨ (b ≠ 48 ∧ b ≠ 49) then -1 else if nxt rows n node b < 0 ∨ (n : Int) + rows.length ≤ nxt rows n node b then -1 else walkF rows n (nxt rows n node b) w
theorem walk_cons (rows : List (Int × Int)) (n : Nat) (node : Int) (b : Nat) (w : List Nat) : walkF rows n node (b :: w) =
    if node < (n : Int) ∨ (b ≠ 48 ∧ b ≠ 49) then -1 else if nxt rows n node b < 0 ∨ (n : Int) + rows.length ≤ nxt rows n node b then -1 else walkF rows n (nxt rows n node b) w := rfl
theorem walk_nil (rows : List (Int × Int)) (n : Nat) (node : Int) : walkF rows n node [] = node := rfl
theorem walk_neg (rows : List (Int × Int)) (n : Nat) : ∀ w, walkF rows n (-1) w = -1
  | [] => rfl
  | b :: w => by rw [walk_cons, if_pos (Or.inl (by omega))]
theorem walk_app (rows : List (Int × Int)) (n : Nat) : ∀ (w v : List Nat) (node : Int), walkF rows n node (w ++ v) = walkF rows n (walkF rows n node w) v
  | [], v, node => rfl
  | b :: w, v, node => by
    rw [List.cons_append, walk_cons, walk_cons]
    by_cases h1 : node < (n : Int) ∨ (b ≠ 48 ∧ b ≠ 49)
    · rw [if_pos h1, if_pos h1]
      exact (walk_neg rows n v).symm
    · rw [if_neg h1, if_neg h1]
      by_cases h2 : nxt rows n node b < 0 ∨ (n : Int) + rows.length ≤ nxt rows n node b
      · rw [if_pos h2, if_pos h2]
        exact (walk_neg rows n v).symm
      · rw [if_neg h2, if_neg h2]
        exact walk_app rows n w v _
/-- every node there is, and every pair made from here on, is reached by its word -/
theorem fill_walk {n : Nat} {rows : List (Int × Int)} {D0 : Wd} (hD : D0.length = n + (n - 1)) (h0 : ∀ z ∈ D0, z = []) : ∀ {rest : List (Int × Int)} {i : Nat} {W L : List Int}, At4 n i W L rest → rows.drop i = rest → rows.length + 1 = n →
    ∀ k, k ∈ L ∨ (((n + i : Nat) : Int) ≤ k ∧ k < (n : Int) + rows.length) → walkF rows n ((n : Int) + rows.length - 1) (wat (fill (n + i) rest D0) k) = k
  | [], i, W, L, h, hr, hn, k, hk => by
    obtain ⟨eL, ei⟩ := at4_end h
    have hk2 : k = (n : Int) + rows.length - 1 := by
      rw [eL] at hk
      rcases hk with hk | hk
      · have : k = ((n + i : Nat) : Int) - 1 := by simpa using hk
        omega
      · omega
    have e : wat D0 k = [] := by
      unfold wat
      rw [List.getD_eq_getElem?_getD]
      cases hz : D0[k.toNat]? with
      | none => rfl
      | some z => exact h0 z (List.mem_of_getElem? hz)
    show walkF rows n _ (wat D0 k) = k
    rw [e, hk2]
    rfl
  | (o, t) :: rest, i, W, L, h, hr, hn, k, hk => by
    have S := step_w h hD
    obtain ⟨_, h6⟩ := at4_step h
    have hil : i < rows.length := by
      have := at4_rest h
      rw [List.length_cons] at this
      omega
    have hdrop : rows.drop (i + 1) = rest := by
      rw [List.drop_eq_getElem_cons hil] at hr
      injection hr
    have hrow : rows[i] = (o, t) := by
      rw [List.drop_eq_getElem_cons hil] at hr
      injection hr
    have ih := fun k hk => fill_walk hD h0 h6 hdrop hn k hk
    have ihp := ih ((n + i : Nat) : Int) (Or.inl (List.mem_append_right _ (by simp)))
    rw [show n + (i + 1) = n + i + 1 by omega] at ih ihp
    have gd : rows.getD (((n + i : Nat) : Int) - (n : Int)).toNat (0, 0) = (o, t) := by
      rw [show (((n + i : Nat) : Int) - (n : Int)).toNat = i by omega, List.getD_eq_getElem?_getD, List.getElem?_eq_getElem hil, hrow]
      rfl
    have o1 := S.olt
    have t1 := S.tlt
    by_cases e1 : k = o
    · subst e1
      have en : nxt rows n ((n + i : Nat) : Int) 48 = k := by
        unfold nxt
        rw [gd, if_pos rfl]
      rw [S.wo, walk_app, ihp, walk_cons, if_neg (by omega), en, if_neg (by omega), walk_nil]
    · by_cases e2 : k = t
      · subst e2
        have en : nxt rows n ((n + i : Nat) : Int) 49 = k := by
          unfold nxt
          rw [gd, if_neg (show ¬ (49 : Nat) = 48 by decide)]
        rw [S.wt, walk_app, ihp, walk_cons, if_neg (by omega), en, if_neg (by omega), walk_nil]
      · have hk0 : 0 ≤ k := by
          rcases hk with hk | hk
          · exact (h.1.rg k hk).1
          · omega
        rw [S.wk k hk0 e1 e2]
        refine ih k ?_
        rcases hk with hk | hk
        · refine Or.inl (List.mem_append_left _ (List.mem_filter.mpr ⟨hk, ?_⟩))
          unfold keep
          simp [e1, e2]
        · by_cases e3 : k = ((n + i : Nat) : Int)
          · exact Or.inl (List.mem_append_right _ (by simp [e3]))
          · exact Or.inr ⟨by omega, hk.2⟩
/-- the codes of the signs -/
def wordsAll (ns : List Int) : Wd := fill ns.length (made ns) (List.replicate (ns.length + (ns.length - 1)) [])
def codes (ns : List Int) : Wd := (wordsAll ns).take ns.length
theorem wordsAll_len (ns : List Int) : (wordsAll ns).length = ns.length + (ns.length - 1) := by
  unfold wordsAll
  rw [fill_len, List.length_replicate]
theorem codes_len (ns : List Int) : (codes ns).length = ns.length := by
  unfold codes
  rw [List.length_take, wordsAll_len]
  omega
theorem code_at {ns : List Int} {k : Nat} (h : k < ns.length) : (codes ns)[k]? = some (wat (wordsAll ns) (k : Int)) := by
  unfold codes wat
  rw [List.getElem?_take, if_pos h, Int.toNat_natCast, List.getD_eq_getElem?_getD, List.getElem?_eq_getElem (by rw [wordsAll_len]; omega)]
  rfl
theorem code_walk {ns : List Int} (h1 : 1 ≤ ns.length) {k : Nat} {w : List Nat} (hw : (codes ns)[k]? = some w) : walkF (made ns) ns.length ((ns.length : Int) + (made ns).length - 1) w = (k : Int) := by
  have hk : k < ns.length := by
    have := (List.getElem?_eq_some_iff.mp hw).1
    rwa [codes_len] at this
  rw [code_at hk] at hw
  cases hw
  have hl := made_len ns
  exact fill_walk (rows := made ns) (by rw [List.length_replicate]) (fun z hz => (List.mem_replicate.mp hz).2) (at4_start h1) rfl (by omega) (k : Int) (Or.inl (List.mem_map.mpr ⟨k, List.mem_range.mpr hk, rfl⟩))
/-- no code begins another one -/
theorem code_apart {ns : List Int} (h1 : 1 ≤ ns.length) {k j : Nat} {w v : List Nat} (hw : (codes ns)[k]? = some w) (hv : (codes ns)[j]? = some (w ++ v)) : k = j := by
  have a := code_walk h1 hw
  have b := code_walk h1 hv
  rw [walk_app, a] at b
  have hk : k < ns.length := by
    have := (List.getElem?_eq_some_iff.mp hw).1
    rwa [codes_len] at this
  cases v with
  | nil =>
    have : (k : Int) = (j : Int) := b
    omega
  | cons c r =>
    rw [walk_cons, if_pos (Or.inl (by omega))] at b
    omega
/-- all words are bits -/
theorem fill_bits {n : Nat} {D0 : Wd} (hD : D0.length = n + (n - 1)) (h0 : ∀ z ∈ D0, z = []) : ∀ {rest : List (Int × Int)} {i : Nat} {W L : List Int}, At4 n i W L rest → ∀ k, 0 ≤ k → (∀ b ∈ wat (fill (n + i) rest D0) k, b = 48 ∨ b = 49) ∧ (wat (fill (n + i) rest D0) k).length ≤ rest.length
  | [], i, W, L, h, k, hk => by
    have e : wat D0 k = [] := by
      unfold wat
      rw [List.getD_eq_getElem?_getD]
      cases hz : D0[k.toNat]? with
      | none => rfl
      | some z => exact h0 z (List.mem_of_getElem? hz)
    show (∀ b ∈ wat D0 k, _) ∧ (wat D0 k).length ≤ 0
    rw [e]
    exact ⟨fun b hb => absurd hb List.not_mem_nil, Nat.le_refl _⟩
  | (o, t) :: rest, i, W, L, h, k, hk => by
    have S := step_w h hD
    obtain ⟨_, h6⟩ := at4_step h
    have ih := fun k hk => fill_bits hD h0 h6 k hk
    rw [show n + (i + 1) = n + i + 1 by omega] at ih
    obtain ⟨i1, i2⟩ := ih ((n + i : Nat) : Int) (by omega)
    by_cases e1 : k = o
    · subst e1
      rw [S.wo]
      refine ⟨fun b hb => ?_, by rw [List.length_append, List.length_cons]; simpa using i2⟩
      rcases List.mem_append.mp hb with hb | hb
      · exact i1 b hb
      · exact Or.inl (by simpa using hb)
    · by_cases e2 : k = t
      · subst e2
        rw [S.wt]
        refine ⟨fun b hb => ?_, by rw [List.length_append, List.length_cons]; simpa using i2⟩
        rcases List.mem_append.mp hb with hb | hb
        · exact i1 b hb
        · exact Or.inr (by simpa using hb)
      · rw [S.wk k hk e1 e2]
        obtain ⟨j1, j2⟩ := ih k hk
        exact ⟨j1, by rw [List.length_cons]; omega⟩
theorem code_bits {ns : List Int} (h1 : 1 ≤ ns.length) {k : Nat} {w : List Nat} (hw : (codes ns)[k]? = some w) : (∀ b ∈ w, b = 48 ∨ b = 49) ∧ w.length + 1 ≤ ns.length := by
  have hk : k < ns.length := by
    have := (List.getElem?_eq_some_iff.mp hw).1
    rwa [codes_len] at this
  rw [code_at hk] at hw
  cases hw
  have hl := made_len ns
  obtain ⟨a, b⟩ := fill_bits (n := ns.length) (D0 := List.replicate (ns.length + (ns.length - 1)) []) (by rw [List.length_replicate]) (fun z hz => (List.mem_replicate.mp hz).2) (at4_start h1) (k : Int) (by omega)
  exact ⟨a, by unfold wordsAll; rw [Nat.add_zero] at b; omega⟩
/-- both of a pair are numbers of ahead -/
theorem made_rng {n : Nat} : ∀ {rest : List (Int × Int)} {i : Nat} {W L : List Int}, At4 n i W L rest → ∀ (j : Nat) (r : Int × Int), rest[j]? = some r → 0 ≤ r.1 ∧ r.1 < ((n + i + j : Nat) : Int) ∧ 0 ≤ r.2 ∧ r.2 < ((n + i + j : Nat) : Int)
  | [], i, W, L, h, j, r, hr => by simp at hr
  | (o, t) :: rest, i, W, L, h, j, r, hr => by
    obtain ⟨⟨h1, h2, _⟩, h6⟩ := at4_step h
    have r1 := h.1.rg o h1
    have r2 := h.1.rg t h2
    rw [h.1.wl] at r1 r2
    cases j with
    | zero =>
      cases hr
      exact ⟨r1.1, r1.2, r2.1, r2.2⟩
    | succ j =>
      have := made_rng h6 j r (by simpa using hr)
      rw [show n + (i + 1) + j = n + i + (j + 1) by omega] at this
      exact this
theorem made_row {ns : List Int} (h1 : 1 ≤ ns.length) {j : Nat} {r : Int × Int} (hr : (made ns)[j]? = some r) : 0 ≤ r.1 ∧ r.1 < ((ns.length + j : Nat) : Int) ∧ 0 ≤ r.2 ∧ r.2 < ((ns.length + j : Nat) : Int) :=
  made_rng (at4_start h1) j r hr
end HF
namespace HF
theorem at4_drop' {n : Nat} : ∀ {rest : List (Int × Int)} {i : Nat} {W L : List Int}, At4 n i W L rest → ∀ j, j ≤ rest.length → ∃ W' L', At4 n (i + j) W' L' (rest.drop j)
  | rest, i, W, L, h, 0, _ => ⟨W, L, h⟩
  | [], i, W, L, h, j + 1, hj => by simp at hj
  | (o, t) :: rest, i, W, L, h, j + 1, hj => by
    have := at4_drop' (at4_step h).2 j (by simpa using hj)
    rw [show i + 1 + j = i + (j + 1) by omega] at this
    exact this
theorem at4_drop {ns : List Int} (h : 1 ≤ ns.length) {j : Nat} (hj : j ≤ (made ns).length) : ∃ W L, At4 ns.length j W L ((made ns).drop j) := by
  have := at4_drop' (at4_start h) j hj
  rwa [Nat.zero_add] at this
end HF

set_option maxHeartbeats 4000000
namespace SP
open PySem L2 Evl
/-- words as values -/
def wv (D : HF.Wd) : List V := D.map fun w => V.str (tx w)
theorem wv_len (D : HF.Wd) : (wv D).length = D.length := by simp [wv]
theorem wv_at {D : HF.Wd} {k : Int} (h0 : 0 ≤ k) (h : k < (D.length : Int)) : atI (wv D) k = some (.str (tx (HF.wat D k))) := by
  have e : k = ((k.toNat : Nat) : Int) := by omega
  have hlt : k.toNat < D.length := by omega
  rw [e]
  refine atI_nat ?_
  unfold wv HF.wat
  rw [List.getElem?_map, List.getD_eq_getElem?_getD, show ((k.toNat : Nat) : Int).toNat = k.toNat by omega, List.getElem?_eq_getElem hlt]
  rfl
theorem wv_set (D : HF.Wd) (i : Nat) (w : List Nat) : (wv D).set i (.str (tx w)) = wv (D.set i w) := by
  unfold wv
  rw [List.map_set]
theorem wv_rep (n : Nat) : (List.replicate n [V.str (tx [])]).flatten = wv (List.replicate n []) := by
  unfold wv
  induction n with
  | zero => rfl
  | succ n ih =>
    rw [List.replicate_succ, List.flatten_cons, ih, List.replicate_succ, List.map_cons]
    rfl
theorem wv_get {D : HF.Wd} {k : Nat} {x : V} (h : (wv D)[k]? = some x) : ∃ w, x = V.str (tx w) ∧ D[k]? = some w := by
  unfold wv at h
  rw [List.getElem?_map] at h
  cases hz : D[k]? with
  | none => rw [hz] at h; cases h
  | some w => rw [hz] at h; exact ⟨w, (Option.some.inj h).symm, rfl⟩
theorem cut_to (xs : List V) (n : Nat) : cutV xs none (some (n : Int)) = xs.take n := by
  unfold cutV
  rw [HT.sIx_none, HT.sIx_nat, List.drop_zero, Nat.sub_zero]
  by_cases h : n ≤ xs.length
  · rw [Nat.min_eq_left h]
  · rw [Nat.min_eq_right (by omega), List.take_of_length_le (Nat.le_refl _), List.take_of_length_le (by omega)]
theorem cut_from (xs : List V) (n : Nat) : cutV xs (some (n : Int)) none = xs.drop n := by
  unfold cutV
  rw [HT.sIx_none, HT.sIx_nat]
  by_cases h : n ≤ xs.length
  · rw [Nat.min_eq_left h, List.take_of_length_le (by rw [List.length_drop]; omega)]
  · rw [Nat.min_eq_right (by omega), List.drop_of_length_le (Nat.le_refl _), List.drop_of_length_le (show xs.length ≤ n by omega)]
    simp
section
variable {K : PySem.W.Frag} {σ : L2.St} {H H' : Hp} {ta tb te : TE} {D : Ends} {tz tu : TS}
/-- [..] * k -/
theorem el_rep {xs : List V} {k : Int} (ha : EvL ta σ H xs) (hb : Ev tb σ H (.int k)) (h1 : 0 ≤ k) (h2 : k < 2 ^ 62) (hz : xs.length * k.toNat ≤ sizeLine) : EvL (tOp rRep ta tb) σ H (List.replicate k.toNat xs).flatten := fun H1 e Q q =>
  ha H1 e _ fun p H2 hp e2 h => hb H2 (e.trans e2) _ fun H3 e3 => ⟨p, k, xs, rfl, rfl, e3 _ _ h, by omega, by omega, hz, fun r hr => q r _ (fresh_back (e2.trans e3) hr) ((e2.trans e3).trans (Ex.new hr)) upd_same⟩
/-- [''] * n -/
theorem el_repE {n : Nat} (ha : EvL ta σ H [V.str (tx [])]) (hb : Ev tb σ H (.int (n : Int))) (hn : n ≤ 100000) : EvL (tOp rRep ta tb) σ H (wv (List.replicate n [])) := by
  have h := el_rep (k := (n : Int)) ha hb (by omega) (by omega) (by simp; exact sz_of (by omega))
  rw [Int.toNat_natCast, wv_rep] at h
  exact h
/-- xs[:n] -/
theorem el_to {K : PySem.W.Frag} {tl : TE} {a : Addr} {xs : List V} {n : Nat} (h : Ev te σ H (.ref a)) (hn : Ev tl σ H (.int (n : Int))) (hs : SqL K H a xs) : EvL (tSl (rSlL K) te tNoPart (tPart tl)) σ H (xs.take n) := by
  have h := el_sl h eo_none (eo_some hn) hs
  rw [cut_to] at h
  exact h
/-- xs[n:] -/
theorem el_from {K : PySem.W.Frag} {tl : TE} {a : Addr} {xs : List V} {n : Nat} (h : Ev te σ H (.ref a)) (hn : Ev tl σ H (.int (n : Int))) (hs : SqL K H a xs) : EvL (tSl (rSlL K) te (tPart tl) tNoPart) σ H (xs.drop n) := by
  have h := el_sl h (eo_some hn) eo_none hs
  rw [cut_from] at h
  exact h
/-- text[:n] -/
theorem cutS_to (l : List Nat) (n : Nat) : cutS (tx l) none (some (n : Int)) = tx (l.take n) := by
  unfold cutS
  rw [HT.sIx_none, HT.sIx_nat, tx_cps, tx_len, List.drop_zero, Nat.sub_zero]
  by_cases h : n ≤ l.length
  · rw [Nat.min_eq_left h]
    rfl
  · rw [Nat.min_eq_right (by omega), List.take_of_length_le (Nat.le_refl _), List.take_of_length_le (by omega)]
    rfl
theorem ev_toS {tl : TE} {l : List Nat} {n : Nat} (h : Ev te σ H (.str (tx l))) (hn : Ev tl σ H (.int (n : Int))) (hz : l.length ≤ 100000) : Ev (tSl rSlS te tNoPart (tPart tl)) σ H (.str (tx (l.take n))) := fun H1 e Q q =>
  h H1 e _ fun H2 e2 => hn H2 (e.trans e2) _ fun H3 e3 => ⟨(n : Int), rfl, tx l, rfl, by rw [tx_len]; exact sz_of hz, by
    rw [cutS_to]
    exact q H3 (e2.trans e3)⟩
/-- max of a new list -/
theorem ev_maxN {K : PySem.W.Frag} {ns : List Int} {m : Int} (h : EvL te σ H (ns.map V.int)) (hm : m ∈ ns) (hle : ∀ y ∈ ns, y ≤ m) : Ev (tCB (rMax K) (tCons te tNil)) σ H (.int m) := fun H1 e Q q =>
  h H1 e _ fun p H2 _ e2 h2 => ⟨p, ns, rfl, sq_of h2, List.length_pos_of_mem hm, fun m' h1 h3 => by
    have : m' = m := by
      have a := hle m' h1
      have b := h3 m hm
      omega
    rw [this]
    exact q H2 e2⟩
/-- for i in reversed(range(n)) -/
theorem q_forRev {j : Nat} {n : Nat} (h : Ev ta σ H (.int (n : Int))) (hn : n ≤ 100000) (Pv : Nat → L2.St → Hp → Prop) (h0 : ∀ H1, Ex H H1 → Pv 0 σ H1)
    (hs : ∀ (i : Nat) σ' H', i < n → Pv i σ' H' → tu { D with nx := Pv (i + 1), ct := Pv (i + 1), bk := tz D } (σ'.set j (some (.int ((n - 1 - i : Nat) : Int)))) H') (hd : ∀ σ' H', Pv n σ' H' → tz D σ' H') : tSeq (tFor (iRevR (tRg1 ta)) (gName j) tu) tz D σ H :=
  h H (Ex.refl H) _ fun H1 e => ⟨(n : Int), rfl, by omega, by omega, by omega, by omega, by
    have en : ((n : Int) - 0).toNat = n := by omega
    rw [en]
    exact for_it walk_rangeC Pv (h0 H1 e) (fun _ _ _ _ _ => True.intro) (fun i v σ' H' H2 hi p y => by
      obtain ⟨rfl, rfl⟩ := y
      have e2 : (0 : Int) + ((n : Nat) : Int) - 1 + ((i : Nat) : Int) * (-1) = ((n - 1 - i : Nat) : Int) := by omega
      show tu _ (σ'.set j (some (.int ((0 : Int) + ((n : Nat) : Int) - 1 + ((i : Nat) : Int) * (-1))))) H2
      rw [e2]
      exact hs i σ' H2 hi p) hd⟩
/-- a, b = rows[k] -/
theorem q_row {l : Addr} {ts : List Addr} {rows : List (Int × Int)} {i j : Nat} {k : Nat} {r : Int × Int} (ho : Ev ta σ H (.ref l)) (hi : Ev tb σ H (.int (k : Int))) (hl : SqL K H l (ts.map V.ref)) (hR : Rws H ts rows) (hr : rows[k]? = some r)
    (c : ∀ H1, Ex H H1 → tz D ((σ.set i (some (.int r.1))).set j (some (.int r.2))) H1) : tSeq (tAsg (tOp (rIxL K) ta tb) (gTup K 2 (gCons (gName i) (gCons (gName j) gNil)))) tz D σ H := by
  have hk : k < ts.length := by
    rw [hR.1]
    exact (List.getElem?_eq_some_iff.mp hr).1
  have ht : ts[k]? = some ts[k] := List.getElem?_eq_getElem hk
  have hat : atI (ts.map V.ref) (k : Int) = some (.ref ts[k]) := atI_nat (by rw [List.getElem?_map, ht]; rfl)
  refine ho H (Ex.refl H) _ fun H1 e1 => hi H1 e1 _ fun H2 e2 => ⟨l, _, (k : Int), _, rfl, rfl, ex_l (e1.trans e2) hl, hat, ?_⟩
  exact ⟨ts[k], [.int r.1, .int r.2], rfl, st_of ((e1.trans e2) _ _ (hR.2 k _ r ht hr)), rfl, _, [_], rfl, _, [], rfl, rfl, c H2 (e1.trans e2)⟩
/-- for a, b in rows -/
theorem q_forRows {l : Addr} {ts : List Addr} {rows : List (Int × Int)} {i j : Nat} {K : PySem.W.Frag} (h : Ev te σ H (.ref l)) (hl : H l = some (.lst (ts.map V.ref))) (hR : Rws H ts rows) (Pv : Nat → L2.St → Hp → Prop) (h0 : ∀ H1, Ex H H1 → Pv 0 σ H1)
    (hq : ∀ i σ' H', Pv i σ' H' → H' l = some (.lst (ts.map V.ref)) ∧ Rws H' ts rows)
    (hs : ∀ (n : Nat) (r : Int × Int) (σ' : L2.St) (H' : Hp), rows[n]? = some r → Pv n σ' H' → tu { D with nx := Pv (n + 1), ct := Pv (n + 1), bk := tz D } ((σ'.set i (some (.int r.1))).set j (some (.int r.2))) H') (hd : ∀ σ' H', Pv rows.length σ' H' → tz D σ' H') :
    tSeq (tFor (iList K te) (gTup K 2 (gCons (gName i) (gCons (gName j) gNil))) tu) tz D σ H := by
  have el : (ts.map V.ref).length = rows.length := by rw [List.length_map, hR.1]
  refine q_forL h (sq_of hl) Pv h0 (fun k σ' H' _ p => sq_of (hq k σ' H' p).1) (fun k x σ' H' hx p => ?_) (by rw [el]; exact hd)
  rw [List.getElem?_map] at hx
  cases ht : ts[k]? with
  | none => rw [ht] at hx; cases hx
  | some t =>
    rw [ht] at hx
    cases hx
    have hk : k < rows.length := by
      rw [← hR.1]
      exact (List.getElem?_eq_some_iff.mp ht).1
    have hr : rows[k]? = some rows[k] := List.getElem?_eq_getElem hk
    exact ⟨t, [.int rows[k].1, .int rows[k].2], rfl, st_of ((hq k σ' H' p).2.2 k t _ ht hr), rfl, _, [_], rfl, _, [], rfl, rfl, hs k _ σ' H' hr p⟩
end
end SP

set_option maxHeartbeats 4000000
namespace SP
open PySem L2 Evl
/-! pairs of ints compared -/
def gt2 (p q : Int × Int) : Bool := decide (q.1 < p.1 ∨ (q.1 = p.1 ∧ q.2 < p.2))
theorem lexLt2 (a b c d : Int) : HT.lexLt [a, b] [c, d] = decide (a < c ∨ (a = c ∧ b < d)) := by
  rw [HT.lexLt_cons, HT.lexLt_cons, HT.lexLt_nil_nil]
  by_cases h1 : a = c
  · rw [if_pos h1]
    by_cases h2 : b = d
    · rw [if_pos h2, decide_eq_false]
      omega
    · rw [if_neg h2]
      exact decide_eq_decide.mpr (by omega)
  · rw [if_neg h1]
    exact decide_eq_decide.mpr (by omega)
def rGt2 (K : PySem.W.Frag) : R2 := fun x y H Q => ∃ (a b : Addr) (p q : Int × Int), x = .ref a ∧ y = .ref b ∧ SqT K H a [.int p.1, .int p.2] ∧ SqT K H b [.int q.1, .int q.2] ∧ Q (.bl (gt2 p q)) H
theorem ints2 {p : Int × Int} {its : List Value} (r : Vals [.int p.1, .int p.2] its) : ∃ t u, its = [.int p.1 t, .int p.2 u] := by
  cases r with
  | cons r1 r2 =>
    cases r2 with
    | cons r2 r3 =>
      cases r3
      obtain ⟨t, rfl⟩ := r1
      obtain ⟨u, rfl⟩ := r2
      exact ⟨t, u, rfl⟩
theorem op_gtT {X : Cx} (hu : X.A.units < cLine) : OpR X (compareOp .Gt) (rGt2 X.K) := by
  intro pn st sg Hh x y v u Q J rx ry h
  obtain ⟨a, b, p, q, rfl, rfl, ha, hb, k⟩ := h
  cases rx
  cases ry
  obtain ⟨its, r1, p1, _⟩ := J.tuple ha
  obtain ⟨its2, r2, p2, _⟩ := J.tuple hb
  obtain ⟨t1, u1, rfl⟩ := ints2 r1
  obtain ⟨t2, u2, rfl⟩ := ints2 r2
  have two : ∀ j, j < 2 → j = 0 ∨ j = 1 := fun j h => by omega
  have beqd : ∀ m n : Int, (m == n) = decide (m = n) := fun m n => by
    by_cases z : m = n
    · rw [decide_eq_true z]
      exact beq_iff_eq.mpr z
    · rw [decide_eq_false z]
      exact beq_eq_false_iff_ne.mpr z
  have R := Ob.RcOp.tuples_gt (A := X.A) (s := st) (e := fun j => if j = 0 then decide (p.1 = q.1) else decide (p.2 = q.2)) (r := fun j => if j = 0 then decide (q.1 < p.1) else decide (q.2 < p.2)) p1 p2 hu (fun j h1 h2 => by
      rcases two j h1 with rfl | rfl
      · show SeqAt.EqAt _ _ (.int p.1 t1) (.int q.1 t2) (decide (p.1 = q.1))
        rw [← beqd]
        exact SeqAt.EqAt.int_int _ _ _ _
      · show SeqAt.EqAt _ _ (.int p.2 u1) (.int q.2 u2) (decide (p.2 = q.2))
        rw [← beqd]
        exact SeqAt.EqAt.int_int _ _ _ _) (fun j h1 h2 _ => by
      rcases two j h1 with rfl | rfl
      · exact Ob.RcOp.gt_int p.1 q.1 t1 t2
      · exact Ob.RcOp.gt_int p.2 q.2 u1 u2)
  refine R X.prog X.w X.xe (EP X pn sg Q) ⟨.bl _, Hh, J, rfl, ?_⟩
  have e : Ob.lexAt (fun j => if j = 0 then decide (p.1 = q.1) else decide (p.2 = q.2)) (fun j => if j = 0 then decide (q.1 < p.1) else decide (q.2 < p.2)) (decide (#[Value.int p.1 t1, Value.int p.2 u1].size > #[Value.int q.1 t2, Value.int q.2 u2].size)) 0 (min #[Value.int p.1 t1, Value.int p.2 u1].size #[Value.int q.1 t2, Value.int q.2 u2].size) = gt2 p q := by
    show (if decide (p.1 = q.1) = true then (if decide (p.2 = q.2) = true then decide (2 > 2) else decide (q.2 < p.2)) else decide (q.1 < p.1)) = gt2 p q
    unfold gt2
    by_cases h1 : p.1 = q.1
    · rw [decide_eq_true h1, if_pos rfl]
      by_cases h2 : p.2 = q.2
      · rw [decide_eq_true h2, if_pos rfl]
        exact decide_eq_decide.mpr (by omega)
      · rw [decide_eq_false h2, if_neg Bool.false_ne_true]
        exact decide_eq_decide.mpr (by omega)
    · rw [decide_eq_false h1, if_neg Bool.false_ne_true]
      exact decide_eq_decide.mpr (by omega)
  show Q (.bl (Ob.lexAt _ _ (decide (#[Value.int p.1 t1, Value.int p.2 u1].size > #[Value.int q.1 t2, Value.int q.2 u2].size)) 0 (min #[Value.int p.1 t1, Value.int p.2 u1].size #[Value.int q.1 t2, Value.int q.2 u2].size))) Hh
  rw [e]
  exact k
section
variable {K : PySem.W.Frag} {σ : L2.St} {H H' : Hp} {ta tb te : TE} {t : TT}
theorem ev_gt2 {p q : Int × Int} (ha : EvU ta σ H [.int p.1, .int p.2]) (hb : EvU tb σ H [.int q.1, .int q.2]) : Ev (tOp (rGt2 K) ta tb) σ H (.bl (gt2 p q)) :=
  ev_opUU ha hb fun a b H1 h1 h2 _ H2 e _ k => ⟨a, b, p, q, rfl, rfl, st_of (e _ _ h1), st_of (e _ _ h2), k H2 (Ex.refl _)⟩
theorem ev_lt2 {p q : Int × Int} (ha : EvU ta σ H [.int p.1, .int p.2]) (hb : EvU tb σ H [.int q.1, .int q.2]) : Ev (tOp (rLtT K) ta tb) σ H (.bl (gt2 q p)) :=
  ev_opUU ha hb fun a b H1 h1 h2 _ H2 e _ k => ⟨a, b, [p.1, p.2], [q.1, q.2], rfl, rfl, st_of (e _ _ h1), st_of (e _ _ h2), by
    rw [lexLt2]
    exact k H2 (Ex.refl _)⟩
/-- x in, not in a list of ints -/
theorem inV_int {ks : List Int} {k : Int} : inV (.int k) (ks.map V.int) = decide (k ∈ ks) := by
  unfold inV
  rw [List.any_map, Bool.eq_iff_iff, List.any_eq_true, decide_eq_true_eq]
  constructor
  · rintro ⟨x, hx, he⟩
    have : x = k := eq_of_beq (show (x == k) = true from he)
    rw [← this]
    exact hx
  · intro h
    exact ⟨k, h, show (k == k) = true by simp⟩
theorem flat_ints {ks : List Int} : (ks.map V.int).all flatV = true := by
  rw [List.all_map, List.all_eq_true]
  intro x _
  rfl
theorem rv_notInI {p : Addr} {ks : List Int} {k : Int} (h : SqL K H p (ks.map V.int)) : RV (rIn K true) (.int k) (.ref p) H (.bl (!decide (k ∈ ks))) := by
  have := rv_niL (K := K) (x := .int k) h rfl flat_ints
  rw [inV_int] at this
  exact this
/-- [x for x in xs if test], ints -/
theorem el_filtI {a : Addr} {ks : List Int} {tl : TE} {j : Nat} {vs : List Nat} (f : Int → Bool) (h : Ev tl σ H (.ref a)) (hx : SqL K H a (ks.map V.int)) (hz : ks.length ≤ 40000) (hw : ∀ x, wipe ((wipe σ vs).set j (some x)) vs = wipe σ vs)
    (ht : ∀ (x : Int) H1, Ex H H1 → x ∈ ks → EvT t ((wipe σ vs).set j (some (.int x))) H1 (f x)) (he : ∀ (x : Int) H1, Ex H H1 → Ev te ((wipe σ vs).set j (some (.int x))) H1 (.int x)) : EvL (tLc (iList K tl) (gName j) t te vs) σ H ((ks.filter f).map V.int) := fun H0 e Q q => h H0 e _ fun H1 e1 => ⟨a, rfl, ⟨_, ex_l (e.trans e1) hx⟩, fun Dl hD =>
  lc_list (xs := ks.map V.int) (fun i H' => H1 Dl = none ∧ Ex H1 H' ∧ H' Dl = some (.lst (((ks.take i).filter f).map V.int))) ⟨hD, Ex.new hD, upd_same⟩ (fun i H' _ p => ex_l ((e.trans e1).trans p.2.1) hx) (fun i x H' hi p => by
    obtain ⟨z, rfl, hz2⟩ := int_at hi
    obtain ⟨p1, p2, p3⟩ := p
    have e01 := e.trans e1
    refine ⟨hw _, ht z H1 e01 (List.mem_of_getElem? hz2) H' p2 _ fun H3 e3 => ?_⟩
    have tk : ks.take (i + 1) = ks.take i ++ [z] := by rw [List.take_add_one, hz2]; rfl
    cases hf : f z with
    | true =>
      rw [if_pos rfl]
      refine he z H1 e01 H3 (p2.trans e3) _ fun H4 e4 => ⟨_, e4 _ _ (e3 _ _ p3), sz_lt ?_, p1, Ex.mut ((p2.trans e3).trans e4) p1, ?_⟩
      · rw [List.length_map]
        have h1 := List.length_filter_le f (ks.take i)
        rw [List.length_take] at h1
        omega
      · rw [upd_same, tk, List.filter_append, List.map_append, List.filter_cons, if_pos hf]
        rfl
    | false =>
      rw [if_neg Bool.false_ne_true]
      refine ⟨p1, p2.trans e3, ?_⟩
      rw [tk, List.filter_append, List.filter_cons, if_neg (by rw [hf]; exact Bool.false_ne_true)]
      show H3 Dl = some (.lst ((((ks.take i).filter f) ++ []).map V.int))
      rw [List.append_nil]
      exact e3 _ _ p3) (fun H' p => by
    have p3 := p.2.2
    rw [List.take_of_length_le (by rw [List.length_map]; exact Nat.le_refl _)] at p3
    exact q Dl H' (fresh_back e1 p.1) (e1.trans p.2.1) p3)⟩
end
end SP

set_option maxHeartbeats 4000000
namespace SP
open PySem L2 Evl
/-! objects that change: all but these stands -/
def ExS (ms : List Addr) (H H' : Hp) : Prop := ∀ a o, a ∉ ms → H a = some o → H' a = some o
section
variable {ms ms' : List Addr} {H H0 H1 H2 H' : Hp} {l p : Addr} {o : HO}
theorem ExS.of (e : Ex H H') : ExS ms H H' := fun a o _ h => e a o h
theorem ExS.refl : ExS ms H H := fun _ _ _ h => h
theorem ExS.trans (a : ExS ms H H1) (b : ExS ms H1 H2) : ExS ms H H2 := fun x o n h => b x o n (a x o n h)
theorem ExS.mono (e : ExS ms H H') (h : ∀ a ∈ ms, a ∈ ms') : ExS ms' H H' := fun a o n x => e a o (fun z => n (h a z)) x
theorem ExS.upd (e : ExS ms H H') (h : l ∈ ms) : ExS ms H (upd H' l o) := fun a u n x => by
  rw [upd_ne (fun z => n (by rw [z]; exact h))]
  exact e a u n x
theorem ExS.ex (e : ExS ms H H1) (h0 : Ex H0 H) (hf : ∀ a ∈ ms, H0 a = none) : Ex H0 H1 := fun a o x =>
  e a o (fun z => by rw [hf a z] at x; cases x) (h0 a o x)
theorem ExS.at (e : ExS ms H H') (x : H l = some o) (n : l ∉ ms) : H' l = some o := e l o n x
/-- a place that is free behind was free before, but for the changed -/
theorem ExS.back (e : ExS ms H H') (h : H' p = none) (n : p ∉ ms) : H p = none := by
  cases h1 : H p with
  | none => rfl
  | some o =>
    rw [e p o n h1] at h
    cases h
theorem ExS.nil (e : ExS [] H H') : Ex H H' := fun a o h => e a o (by simp) h
end
/-! classes by their names -/
def cadr (mg : Str → Option Value) (x : Str) : Addr := match mg x with
  | some (.ref a) => a
  | _ => 0
theorem cadr_of {mg : Str → Option Value} {x : Str} {a : Addr} (h : mg x = some (.ref a)) : cadr mg x = a := by
  unfold cadr
  rw [h]
structure Met (P : Program) (w : World) (K : PySem.W.Frag) (mg : Str → Option Value) (base : Heap) (c m : Str) (ps : List Str) (k : Nat) (sp : Sp) : Prop where
  ex : ∃ f fd, Cls K (cadr mg c) ∧ Meth K (cadr mg c) m f ∧ FnOk P w K mg base CX0 k f fd ps sp ∧ Binds K fd ps []
structure Mkr (P : Program) (w : World) (K : PySem.W.Frag) (mg : Str → Option Value) (base : Heap) (c : Str) (ps : List Str) (k : Nat) (sp : Sp) : Prop where
  ex : ∃ f fd, Mk K (cadr mg c) f ∧ FnOk P w K mg base CX0 k f fd ps sp ∧ mg c = some (.ref (cadr mg c)) ∧ Binds K fd ps []
section
variable {X : Cx} {x c m : Str} {ps : List Str} {k k' : Nat} {sp : Sp} {p pos apos : Pos} {e o : Expr} {es : List Expr} {t : TA} {ta : TE}
theorem pe_met {pl : Sem Bool} (C : Met X.prog X.w X.K X.mg X.base c m ps k sp) (hr : Room k' X.A) (hk : k ≤ k') (he : PE X o ta) (ha : PA X (e :: es) t)
    (hst : starEach (e :: es) X.env = (false, eval e X.env) :: starEach es X.env := by rfl) (hpl : (backTo pos (starEach es X.env)).any (·.1) = false := by rfl)
    (ht : eval (.Call (.Attribute o m apos) (e :: es) [] pos) X.env = (do
      let ov ← eval o X.env
      standAt apos.atName
      let (f, first) ← holding [ov] (getMethod ov m pl)
      callWith pos f first (backTo pos (starEach (e :: es) X.env)) (backToKw pos (keywordEach [] X.env))) := by rfl) :
    PE X (.Call (.Attribute o m apos) (e :: es) [] pos) (tMeth (cadr X.mg c) m sp [] E0 ta t) := by
  obtain ⟨f, fd, hc, hm, F, b⟩ := C.ex
  exact pe_meth (pl := pl) he hc hm F (hr.mono hk) b .nil pass0 ha hst hpl ht
theorem pe_met0 {pl : Sem Bool} (C : Met X.prog X.w X.K X.mg X.base c m ps k sp) (hr : Room k' X.A) (hk : k ≤ k') (he : PE X o ta)
    (ht : eval (.Call (.Attribute o m apos) [] [] pos) X.env = (do
      let ov ← eval o X.env
      standAt apos.atName
      let (f, first) ← holding [ov] (getMethod ov m pl)
      callWith pos f first (backTo pos (starEach [] X.env)) (backToKw pos (keywordEach [] X.env))) := by rfl) :
    PE X (.Call (.Attribute o m apos) [] [] pos) (tMeth (cadr X.mg c) m sp [] E0 ta tNil) := by
  obtain ⟨f, fd, hc, hm, F, b⟩ := C.ex
  exact pe_meth0 (pl := pl) he hc hm F (hr.mono hk) b .nil pass0 ht
theorem pe_mkr (C : Mkr X.prog X.w X.K X.mg X.base x ps k sp) (hr : Room k' X.A) (hk : k + 1 ≤ k') (hg : Gl X x) (ha : PA X (e :: es) t)
    (hdb : (x == ("__debug__" : Str)) = false := by decide) (he : starEach (e :: es) X.env = (false, eval e X.env) :: starEach es X.env := by rfl) (hpl : (backTo pos (starEach es X.env)).any (·.1) = false := by rfl) :
    PE X (.Call (.Name x p) (e :: es) [] pos) (tMake (cadr X.mg x) sp [] E0 t) := by
  obtain ⟨f, fd, M, F, hm, b⟩ := C.ex
  exact pe_make M F (hr.mono hk) hg hm b .nil pass0 ha hdb he hpl
end
/-! list(a text) -/
def sv (l : List Nat) : List V := l.map fun c => V.str (tx [c])
theorem sv_len (l : List Nat) : (sv l).length = l.length := by simp [sv]
theorem sv_flat (l : List Nat) : (sv l).all flatV = true := by
  unfold sv
  rw [List.all_map, List.all_eq_true]
  intro x _
  rfl
theorem tx1_eq {c d : Nat} : (tx [c] = tx [d]) ↔ c = d := ⟨fun h => by have := tx_inj h; simpa using this, fun h => by rw [h]⟩
theorem inV_sv {l : List Nat} {c : Nat} : inV (.str (tx [c])) (sv l) = decide (c ∈ l) := by
  unfold inV sv
  rw [List.any_map, Bool.eq_iff_iff, List.any_eq_true, decide_eq_true_eq]
  constructor
  · rintro ⟨x, hx, he⟩
    have h1 : tx [x] = tx [c] := eq_of_beq (show (tx [x] == tx [c]) = true from he)
    rw [← tx1_eq.mp h1]
    exact hx
  · intro h
    exact ⟨c, h, show (tx [c] == tx [c]) = true by simp⟩
def rListZ : List V → Hp → VK → Prop := fun xs H Q => ∃ l : List Nat, xs = [.str (tx l)] ∧ l.length ≤ 100000 ∧ ∀ q, H q = none → Q (.ref q) (upd H q (.lst (sv l)))
theorem call_listZ {X : Cx} (hc : X.calm = true) : CallR X (.type "list") rListZ := by
  intro pins s σ H xs us Q I r h
  obtain ⟨l, rfl, hl, q⟩ := h
  obtain ⟨u, rfl, rx⟩ := vals1 r
  obtain ⟨t, rfl⟩ := rx
  have hsz : (tx l).cps.size = l.length := by simp [tx]
  refine PySem.call_list_str (I.ok.hd hc) (tx l) t (fun h' tk acc c' hk e hi => ?_) (by rw [hsz]; exact sz_of hl)
  refine ⟨.ref s.heap.objs.size, upd H s.heap.objs.size (.lst (sv l)), I.laid hk (Nat.le_refl _) ⟨by rw [sv_len]; exact sz_of hl, acc.toList, c', ?_, by rw [Array.toArray_toList]; exact e⟩, rfl, q _ (I.hok.fresh (Nat.le_refl _))⟩
  refine vals_of_idx _ _ (by rw [sv_len, Array.length_toList, ← hsz]; exact hi.1) fun j u hj => ?_
  obtain ⟨c, t', hc, rfl⟩ := hi.2 j u (by rw [← Array.getElem?_toList]; exact hj)
  have hc' : l[j]? = some c := by
    rw [← hc]
    simp [tx]
  exact ⟨.str (tx [c]), by unfold sv; rw [List.getElem?_map, hc']; rfl, ⟨_, rfl⟩⟩
/-! fields -/
theorem lk_eq {f : Str} {v : V} {r : List (Str × V)} : List.lookup f ((f, v) :: r) = some v := by simp [List.lookup]
theorem lk_ne {f g : Str} {v : V} {r : List (Str × V)} (h : (f == g) = false) : List.lookup f ((g, v) :: r) = List.lookup f r := by simp only [List.lookup, h]
theorem lk_nil {f : Str} : List.lookup f ([] : List (Str × V)) = none := rfl
theorem pf_nil {f : Str} {v : V} : putF f v [] = [(f, v)] := rfl
theorem pf_eq {f : Str} {v x : V} {r : List (Str × V)} : putF f v ((f, x) :: r) = (f, v) :: r := by
  show (if f = f then (f, v) :: r else _) = _
  rw [if_pos rfl]
theorem pf_ne {f g : Str} {v x : V} {r : List (Str × V)} (h : (g == f) = false) : putF f v ((g, x) :: r) = (g, x) :: putF f v r := by
  show (if g = f then _ else _) = _
  rw [if_neg (beq_eq_false_iff_ne.mp h)]
section
variable {K : PySem.W.Frag} {σ : L2.St} {H H' : Hp} {ta tb te tv : TE} {t : TA} {x y z v : V} {D : Ends} {tz : TS} {p C dx : Addr} {fs : List (Str × V)} {f m : Str}
theorem ev_fld (ho : Ev ta σ H (.ref p)) (hp : H p = some (.ins C dx fs)) (c : Cls K C) (n : NoAttr K C f) (hl : fs.lookup f = some v) : Ev (tFld K ta f) σ H v := fun H1 e Q q =>
  ho H1 e _ fun H2 e2 => ⟨p, C, dx, fs, v, rfl, e2 _ _ (e _ _ hp), c, n, hl, q H2 e2⟩
theorem s_fld (hv : Ev tv σ H v) (ho : Ev ta σ H (.ref p)) (hp : H p = some (.ins C dx fs)) (c : Cls K C) (n : NoAttr K C f) (hl : fs.length < 1000) (k : ∀ H1, Ex H H1 → D.nx σ (upd H1 p (.ins C dx (putF f v fs)))) : sFld K ta tv f D σ H :=
  hv H (Ex.refl H) _ fun H1 e1 => ho H1 e1 _ fun H2 e2 => ⟨p, C, dx, fs, rfl, e2 _ _ (e1 _ _ hp), c, n, hl, k H2 (e1.trans e2)⟩
theorem q_fld (hv : Ev tv σ H v) (ho : Ev ta σ H (.ref p)) (hp : H p = some (.ins C dx fs)) (c : Cls K C) (n : NoAttr K C f) (hl : fs.length < 1000) (k : ∀ H1, Ex H H1 → tz D σ (upd H1 p (.ins C dx (putF f v fs)))) : tSeq (sFld K ta tv f) tz D σ H :=
  s_fld (D := { D with nx := tz D }) hv ho hp c n hl k
theorem s_fldL {xs : List V} (hv : EvL tv σ H xs) (ho : Ev ta σ H (.ref p)) (hp : H p = some (.ins C dx fs)) (c : Cls K C) (n : NoAttr K C f) (hl : fs.length < 1000) (k : ∀ l H1, H l = none → Ex H H1 → H1 l = some (.lst xs) → l ≠ p → D.nx σ (upd H1 p (.ins C dx (putF f (.ref l) fs)))) : sFld K ta tv f D σ H :=
  hv H (Ex.refl H) _ fun l H1 hl1 e1 h1 => ho H1 e1 _ fun H2 e2 => ⟨p, C, dx, fs, rfl, e2 _ _ (e1 _ _ hp), c, n, hl, k l H2 hl1 (e1.trans e2) (e2 _ _ h1) fun z => by rw [z, hp] at hl1; cases hl1⟩
theorem q_fldL {xs : List V} (hv : EvL tv σ H xs) (ho : Ev ta σ H (.ref p)) (hp : H p = some (.ins C dx fs)) (c : Cls K C) (n : NoAttr K C f) (hl : fs.length < 1000) (k : ∀ l H1, H l = none → Ex H H1 → H1 l = some (.lst xs) → l ≠ p → tz D σ (upd H1 p (.ins C dx (putF f (.ref l) fs)))) : tSeq (sFld K ta tv f) tz D σ H :=
  s_fldL (D := { D with nx := tz D }) hv ho hp c n hl k
/-- o.f += a text -/
theorem s_faugS {a b : List Nat} (ho : Ev ta σ H (.ref p)) (hp : H p = some (.ins C dx fs)) (c : Cls K C) (n : NoAttr K C f) (hf : fs.lookup f = some (.str (tx a))) (hv : Ev tv σ H (.str (tx b))) (hz : a.length + b.length ≤ 100000) (hl : fs.length < 1000)
    (k : ∀ H1, Ex H H1 → D.nx σ (upd H1 p (.ins C dx (putF f (.str (tx (a ++ b))) fs)))) : sFldAug K ta tv rAddS f D σ H :=
  ho H (Ex.refl H) _ fun H1 e1 => ⟨p, C, dx, fs, _, rfl, e1 _ _ hp, c, n, hf, hv H1 e1 _ fun H2 e2 => ⟨tx a, tx b, rfl, rfl, by rw [tx_len, tx_len]; exact sz_of hz, dx, fs, (e1.trans e2) _ _ hp, hl, by
    rw [tx_app]
    exact k H2 (e1.trans e2)⟩⟩
theorem q_faugS {a b : List Nat} (ho : Ev ta σ H (.ref p)) (hp : H p = some (.ins C dx fs)) (c : Cls K C) (n : NoAttr K C f) (hf : fs.lookup f = some (.str (tx a))) (hv : Ev tv σ H (.str (tx b))) (hz : a.length + b.length ≤ 100000) (hl : fs.length < 1000)
    (k : ∀ H1, Ex H H1 → tz D σ (upd H1 p (.ins C dx (putF f (.str (tx (a ++ b))) fs)))) : tSeq (sFldAug K ta tv rAddS f) tz D σ H :=
  s_faugS (D := { D with nx := tz D }) ho hp c n hf hv hz hl k
/-- o.f -= an int -/
theorem s_faugI {a b : Int} (ho : Ev ta σ H (.ref p)) (hp : H p = some (.ins C dx fs)) (c : Cls K C) (n : NoAttr K C f) (hf : fs.lookup f = some (.int a)) (hv : Ev tv σ H (.int b)) (hl : fs.length < 1000)
    (k : ∀ H1, Ex H H1 → D.nx σ (upd H1 p (.ins C dx (putF f (.int (a - b)) fs)))) : sFldAug K ta tv rSub f D σ H :=
  ho H (Ex.refl H) _ fun H1 e1 => ⟨p, C, dx, fs, _, rfl, e1 _ _ hp, c, n, hf, hv H1 e1 _ fun H2 e2 => ⟨a, b, rfl, rfl, dx, fs, (e1.trans e2) _ _ hp, hl, k H2 (e1.trans e2)⟩⟩
theorem q_faugI {a b : Int} (ho : Ev ta σ H (.ref p)) (hp : H p = some (.ins C dx fs)) (c : Cls K C) (n : NoAttr K C f) (hf : fs.lookup f = some (.int a)) (hv : Ev tv σ H (.int b)) (hl : fs.length < 1000)
    (k : ∀ H1, Ex H H1 → tz D σ (upd H1 p (.ins C dx (putF f (.int (a - b)) fs)))) : tSeq (sFldAug K ta tv rSub f) tz D σ H :=
  s_faugI (D := { D with nx := tz D }) ho hp c n hf hv hl k
/-- a method's call: its promise at the heap as it stands then -/
theorem er_met {sp : Sp} {vs : List V} {E : XK} {Q : VK} (ho : Ev ta σ H (.ref p)) (hp : H p = some (.ins C dx fs)) (hm : fs.lookup m = none) (ha : EvA t σ H vs) (k : ∀ H1, Ex H H1 → sp (.ref p :: vs) H1 Q E) : tMeth C m sp [] E ta t σ H Q :=
  ho H (Ex.refl H) _ fun H1 e1 => ⟨p, dx, fs, rfl, e1 _ _ hp, hm, ha H1 e1 _ fun H2 e2 => by
    rw [List.append_nil]
    exact k H2 (e1.trans e2)⟩
/-- a new instance: its __init__'s promise -/
theorem er_mkr {sp : Sp} {vs : List V} {E : XK} {Q : VK} (ha : EvA t σ H vs)
    (k : ∀ H1 x dx, Ex H H1 → H1 x = none → H1 dx = none → dx ≠ x → sp (.ref x :: vs) (upd (upd H1 dx (.own x)) x (.ins C dx [])) (fun v H2 => v = .non ∧ Q (.ref x) H2) E) : tMake C sp [] E t σ H Q :=
  ha H (Ex.refl H) _ fun H1 e1 => fun x dx hx hd hn => by
    rw [List.append_nil]
    exact k H1 x dx e1 hx hd hn
/-- what stood ahead of the making -/
theorem ex_made {H1 H2 : Hp} {x dx C : Addr} (hx : H1 x = none) (hd : H1 dx = none) (e : ExS [x] (upd (upd H1 dx (.own x)) x (.ins C dx [])) H2) : Ex H1 H2 := fun a o h => by
  have n1 : a ≠ x := ne_of_none h hx
  have n2 : a ≠ dx := ne_of_none h hd
  refine e a o (by simpa using n1) ?_
  rw [upd_ne n1, upd_ne n2]
  exact h
/-- list(a text) -/
theorem el_listZ {l : List Nat} (ha : Ev ta σ H (.str (tx l))) (hl : l.length ≤ 100000) : EvL (tCB rListZ (tCons ta tNil)) σ H (sv l) := fun H1 e Q q =>
  ha H1 e _ fun H2 e2 => ⟨l, rfl, hl, fun r hr => q r _ (fresh_back e2 hr) (e2.trans (Ex.new hr)) upd_same⟩
/-- a sign in, not in a list of signs that is new -/
theorem ev_niZ {l : List Nat} {c : Nat} (ha : Ev ta σ H (.str (tx [c]))) (hb : EvL tb σ H (sv l)) : Ev (tOp (rIn K true) ta tb) σ H (.bl (!decide (c ∈ l))) :=
  ev_opL ha hb fun p H1 h1 _ => by
    have := rv_niL (K := K) (x := .str (tx [c])) (sq_of h1) rfl (sv_flat l)
    rw [inV_sv] at this
    exact this
/-- a <= b <= c by any relations -/
theorem ev_chainR {r r' : R2} {tc : TE} {a b : Bool} (ha : Ev ta σ H x) (hb : Ev tb σ H y) (h1 : RV r x y H (.bl a)) (hc : a = true → Ev tc σ H z) (h2 : a = true → RV r' y z H (.bl b)) : Ev (tChain r r' ta tb tc) σ H (.bl (a && b)) := fun H1 e Q q =>
  ha H1 e _ fun H2 e2 => hb H2 (e.trans e2) _ fun H3 e3 => h1 H3 ((e.trans e2).trans e3) _ fun H4 e4 => ⟨a, rfl, by
    have e24 := (e2.trans e3).trans e4
    cases a with
    | true =>
      show tc σ H4 _
      exact hc rfl H4 (e.trans e24) _ fun H5 e5 => h2 rfl H5 ((e.trans e24).trans e5) _ fun H6 e6 => q H6 ((e24.trans e5).trans e6)
    | false =>
      show Q (.bl false) H4
      exact q H4 e24⟩
end
end SP
namespace SP
open PySem L2 Evl
theorem strB32 : PySem.Str.ofString " " = tx [32] := by decide +kernel
theorem strB126 : PySem.Str.ofString "~" = tx [126] := by decide +kernel
theorem count_le1 {l : List Nat} (h : l.Nodup) {c : Nat} : l.count c ≤ 1 := by
  induction l with
  | nil => simp
  | cons a r ih =>
    have h1 := List.nodup_cons.mp h
    rw [List.count_cons]
    by_cases e : a = c
    · rw [if_pos (by rw [e]; simp), List.count_eq_zero_of_not_mem (by rw [← e]; exact h1.1)]
      omega
    · rw [if_neg (by simpa using e)]
      have := ih h1.2
      omega
section
variable {K : PySem.W.Frag} {σ : L2.St} {H H' : Hp} {ta tb te : TE}
theorem lt_one {a b : Nat} : ([b] : List Nat) < [a] ↔ b < a := by
  rw [List.cons_lt_cons_iff]
  constructor
  · rintro (h | ⟨_, h⟩)
    · exact h
    · exact absurd h (List.not_lt_nil _)
  · intro h
    exact Or.inl h
theorem rv_leS {a b : Nat} : RV (fun x y H Q => ∃ i j, x = .str i ∧ y = .str j ∧ Q (.bl (!decide (j.cps.toList < i.cps.toList))) H) (.str (tx [a])) (.str (tx [b])) H (.bl (decide (a ≤ b))) := fun H1 _ Q q =>
  ⟨tx [a], tx [b], rfl, rfl, by
    have e : (!decide ((tx [b]).cps.toList < (tx [a]).cps.toList)) = decide (a ≤ b) := by
      rw [tx_cps, tx_cps]
      by_cases h : a ≤ b
      · rw [decide_eq_true h, decide_eq_false (fun z => by have := lt_one.mp z; omega)]
        rfl
      · rw [decide_eq_false h, decide_eq_true (lt_one.mpr (by omega))]
        rfl
    rw [e]
    exact q H1 (Ex.refl _)⟩
/-- [1] * n -/
theorem el_repI {n : Nat} {k : Int} (ha : EvL ta σ H [V.int k]) (hb : Ev tb σ H (.int (n : Int))) (hn : n ≤ 100000) : EvL (tOp rRep ta tb) σ H ((List.replicate n k).map V.int) := by
  have h := el_rep (k := (n : Int)) ha hb (by omega) (by omega) (by simp; exact sz_of (by omega))
  have e : (List.replicate (n : Int).toNat [V.int k]).flatten = (List.replicate n k).map V.int := by
    rw [Int.toNat_natCast]
    induction n with
    | zero => rfl
    | succ m ih =>
      rw [List.replicate_succ, List.flatten_cons, List.replicate_succ, List.map_cons]
      have : (List.replicate m [V.int k]).flatten = (List.replicate m k).map V.int := by
        clear ih h hb ha hn
        induction m with
        | zero => rfl
        | succ m ih =>
          rw [List.replicate_succ, List.flatten_cons, ih, List.replicate_succ, List.map_cons]
          rfl
      rw [this]
      rfl
  rw [e] at h
  exact h
end
end SP
namespace SP
open PySem L2 Evl
section
variable {K : PySem.W.Frag} {σ : L2.St} {H H' : Hp} {ta tb tc td te : TE} {x y z w : V} {D : Ends} {tz : TS} {t : TA}
theorem el_cal3L {sp : Sp} {E : XK} {xs ys : List V} (ha : Ev ta σ H x) (hb : EvL tb σ H ys) (hc : Ev tc σ H z) (hs : ∀ r H1, Ex H H1 → H1 r = some (.lst ys) → SpL sp [x, .ref r, z] H1 xs) : EvL (tCall sp [] E (tCons ta (tCons tb (tCons tc tNil)))) σ H xs := fun H1 e Q q =>
  ha H1 e _ fun H2 e2 => hb H2 (e.trans e2) _ fun r H3 _ e3 h3 => hc H3 ((e.trans e2).trans e3) _ fun H4 e4 => hs r H4 (((e.trans e2).trans e3).trans e4) (e4 _ _ h3) H4 (Ex.refl H4) Q (fun p H5 hp e5 h5 => q p H5 (fresh_back ((e2.trans e3).trans e4) hp) (((e2.trans e3).trans e4).trans e5) h5) E
theorem ev_cal4L3 {sp : Sp} {E : XK} {v : V} {xs : List V} (ha : Ev ta σ H x) (hb : Ev tb σ H y) (hc : EvL tc σ H xs) (hd : Ev td σ H w) (hs : ∀ r H1, Ex H H1 → H1 r = some (.lst xs) → SpV sp [x, y, .ref r, w] H1 v) : Ev (tCall sp [] E (tCons ta (tCons tb (tCons tc (tCons td tNil))))) σ H v := fun H1 e Q q =>
  ha H1 e _ fun H2 e2 => hb H2 (e.trans e2) _ fun H3 e3 => hc H3 ((e.trans e2).trans e3) _ fun r H4 _ e4 h4 => hd H4 (((e.trans e2).trans e3).trans e4) _ fun H5 e5 => hs r H5 ((((e.trans e2).trans e3).trans e4).trans e5) (e5 _ _ h4) H5 (Ex.refl H5) Q (fun H6 e6 => q H6 ((((e2.trans e3).trans e4).trans e5).trans e6)) E
/-- a, b, c = a new tuple of three -/
theorem q_asg3 {i j k : Nat} (h : EvU te σ H [x, y, z]) (kk : ∀ H1, Ex H H1 → tz D (((σ.set i (some x)).set j (some y)).set k (some z)) H1) : tSeq (tAsg te (gTup K 3 (gCons (gName i) (gCons (gName j) (gCons (gName k) gNil))))) tz D σ H :=
  h H (Ex.refl H) _ fun p H1 _ e1 h1 => ⟨p, [x, y, z], rfl, st_of h1, rfl, x, [y, z], rfl, y, [z], rfl, z, [], rfl, rfl, kk H1 e1⟩
theorem q_asg2 {i j : Nat} (h : EvU te σ H [x, y]) (kk : ∀ H1, Ex H H1 → tz D ((σ.set i (some x)).set j (some y)) H1) : tSeq (tAsg te (gTup K 2 (gCons (gName i) (gCons (gName j) gNil)))) tz D σ H :=
  h H (Ex.refl H) _ fun p H1 _ e1 h1 => ⟨p, [x, y], rfl, st_of h1, rfl, x, [y], rfl, y, [], rfl, rfl, kk H1 e1⟩
theorem q_make {C : Addr} {sp : Sp} {vs : List V} {E : XK} {i : Nat} (ha : EvA t σ H vs)
    (k : ∀ H1 x dx, Ex H H1 → H1 x = none → H1 dx = none → dx ≠ x → sp (.ref x :: vs) (upd (upd H1 dx (.own x)) x (.ins C dx [])) (fun v H2 => v = .non ∧ tz D (σ.set i (some (.ref x))) H2) E) : tSeq (tAsg (tMake C sp [] E t) (gName i)) tz D σ H :=
  er_mkr (Q := fun v H2 => gName i v σ H2 (tz D)) ha k
/-- the script, an object or two changed -/
theorem sq_S {ms : List Addr} {a : Addr} {xs : List V} (e : ExS ms H H') (hi : ∀ b ∈ ms, ∃ C dx fs, H b = some (.ins C dx fs)) (h : SqL K H a xs) : SqL K H' a xs := by
  have na : ∀ o, H a = some o → (∀ C dx fs, o ≠ .ins C dx fs) → a ∉ ms := fun o ho hn hm => by
    obtain ⟨C, dx, fs, h1⟩ := hi a hm
    rw [ho] at h1
    exact hn _ _ _ (Option.some.inj h1)
  rcases h with (h | ⟨o, h⟩) | h
  · exact .inl (.inl (e _ _ (na _ h fun _ _ _ z => nomatch z) h))
  · exact .inl (.inr ⟨o, e _ _ (na _ h fun _ _ _ z => nomatch z) h⟩)
  · exact .inr h
end
end SP

set_option maxHeartbeats 4000000
namespace SP
open PySem L2 Evl
/-! shares, counts, how they are learnt; the laws' signs: the mathematics -/
def Shares (ns : List Int) : Prop := 1 ≤ ns.length ∧ ns.length ≤ 40 ∧ ∀ n ∈ ns, 1 ≤ n ∧ n ≤ 1000000000000
def Counts (cs : List Int) (n : Nat) : Prop := cs.length = n ∧ ∀ c ∈ cs, 0 ≤ c ∧ c ≤ 1000000000000
def half (x : Int) : Int := x - x / 2
/-- halved as long as the sum is above the cap -/
inductive Halved (cap : Int) : List Int → List Int → Prop where
  | stop {xs} : xs.sum ≤ cap → Halved cap xs xs
  | step {xs ys} : cap < xs.sum → Halved cap (xs.map half) ys → Halved cap xs ys
theorem half_pos {x : Int} (h : 1 ≤ x) : 1 ≤ half x ∧ half x ≤ x := by
  unfold half
  omega
theorem sum_half : ∀ {xs : List Int}, (∀ x ∈ xs, 1 ≤ x) → (xs.map half).sum ≤ xs.sum ∧ ((xs.length : Int) < xs.sum → (xs.map half).sum < xs.sum)
  | [], _ => ⟨Int.le_refl _, fun h => by simp at h⟩
  | x :: r, h => by
    have h1 := h x List.mem_cons_self
    obtain ⟨i1, i2⟩ := sum_half (xs := r) fun y hy => h y (List.mem_cons_of_mem _ hy)
    have h2 := half_pos h1
    rw [List.map_cons, List.sum_cons, List.sum_cons, List.length_cons]
    refine ⟨by omega, fun hl => ?_⟩
    by_cases hx : x = 1
    · have : (r.length : Int) < r.sum := by omega
      have := i2 this
      omega
    · have : half x < x := by
        unfold half
        omega
      omega
theorem sum_ge : ∀ {xs : List Int}, (∀ x ∈ xs, 1 ≤ x) → (xs.length : Int) ≤ xs.sum
  | [], _ => by simp
  | x :: r, h => by
    have h1 := h x List.mem_cons_self
    have := sum_ge (xs := r) fun y hy => h y (List.mem_cons_of_mem _ hy)
    rw [List.sum_cons, List.length_cons]
    omega
theorem halves {cap : Int} : ∀ (m : Nat) (xs : List Int), xs.sum.toNat ≤ m → (∀ x ∈ xs, 1 ≤ x) → (xs.length : Int) ≤ cap → ∃ ys, Halved cap xs ys
  | 0, xs, hm, h, hc => ⟨xs, .stop (by have := sum_ge h; omega)⟩
  | m + 1, xs, hm, h, hc => by
    by_cases hs : cap < xs.sum
    · have := (sum_half h).2 (by omega)
      obtain ⟨ys, hy⟩ := halves m (xs.map half) (by omega) (fun x hx => by
        obtain ⟨y, hy, rfl⟩ := List.mem_map.mp hx
        exact (half_pos (h y hy)).1) (by rw [List.length_map]; exact hc)
      exact ⟨ys, .step hs hy⟩
    · exact ⟨xs, .stop (by omega)⟩
theorem halved_len {cap : Int} {xs ys : List Int} (h : Halved cap xs ys) : ys.length = xs.length := by
  induction h with
  | stop _ => rfl
  | step _ _ ih => rw [ih, List.length_map]
/-- the loop while sum(xs) > cap: xs = [x - x // 2 for x in xs], from slot 3, behind which nothing is kept but the list's address -/
def WH (cap : Int) (ys : List Int) (n : Nat) (H : Hp) (m : Nat) (p : Addr) (H' : Hp) : Prop := ∃ xs : List Int, Ex H H' ∧ H' p = some (.lst (xs.map V.int)) ∧ H p = none ∧ Halved cap xs ys ∧ (∀ x ∈ xs, 1 ≤ x) ∧ xs.length = n ∧ (n : Int) ≤ cap ∧ n ≤ 40 ∧ m = xs.sum.toNat
def sumZ (xs ys : List Int) : List Int := List.zipWith (· + ·) xs ys
theorem sumZ_at {xs ys : List Int} {i : Nat} {x y : Int} (h1 : xs[i]? = some x) (h2 : ys[i]? = some y) : (sumZ xs ys)[i]? = some (x + y) := by
  unfold sumZ
  rw [List.getElem?_zipWith, h1, h2]
theorem sumZ_len {xs ys : List Int} (h : ys.length = xs.length) : (sumZ xs ys).length = xs.length := by
  unfold sumZ
  rw [List.length_zipWith, h, Nat.min_self]
theorem sumZ_pos : ∀ {xs ys : List Int}, (∀ x ∈ xs, 1 ≤ x) → (∀ y ∈ ys, 0 ≤ y) → ∀ z ∈ sumZ xs ys, 1 ≤ z
  | [], _, _, _, z, hz => by simp [sumZ] at hz
  | _ :: _, [], _, _, z, hz => by simp [sumZ] at hz
  | x :: xs, y :: ys, h1, h2, z, hz => by
    have a1 := h1 x List.mem_cons_self
    have a2 := h2 y List.mem_cons_self
    rcases List.mem_cons.mp (show z ∈ (x + y) :: sumZ xs ys from hz) with e | hz
    · omega
    · exact sumZ_pos (fun v hv => h1 v (List.mem_cons_of_mem _ hv)) (fun v hv => h2 v (List.mem_cons_of_mem _ hv)) z hz
def countsOf (ss bs : List Nat) : List Int := ss.map fun c => ((bs.count c : Nat) : Int)
def all94 : List Nat := (List.range 5).map (· + 32) ++ (List.range 89).map (· + 38)
theorem all94_len : all94.length = 94 := by decide
def signsOf (c : Int) (m : Nat) : List Nat := (List.range m).map fun k : Nat => all94.getD ((c + (k : Int) * (1 + 2 * (c / 94 % 23))) % 94).toNat 0
theorem signsOf_len (c : Int) (m : Nat) : (signsOf c m).length = m := by simp [signsOf]
theorem signs_at {c : Int} {m i : Nat} {y : V} (h : ((signsOf c m).map fun d => V.str (tx [d]))[i]? = some y) : y = V.str (tx [all94.getD ((c + (i : Int) * (1 + 2 * (c / 94 % 23))) % 94).toNat 0]) := by
  unfold signsOf at h
  rw [List.map_map, List.getElem?_map] at h
  cases hz : (List.range m)[i]? with
  | none => rw [hz] at h; cases h
  | some z =>
    rw [hz] at h
    obtain ⟨h1, h2⟩ := List.getElem?_eq_some_iff.mp hz
    rw [List.getElem_range] at h2
    subst h2
    exact (Option.some.inj h).symm
theorem some94 : (PySem.Str.ofString " !\"#$&'()*+,-./0123456789:;<=>?@ABCDEFGHIJKLMNOPQRSTUVWXYZ[\\]^_`" ++ PySem.Str.ofString "abcdefghijklmnopqrstuvwxyz{|}~") = tx all94 := by decide +kernel
theorem all94_at {i : Int} (h1 : 0 ≤ i) (h2 : i < 94) : atI (tx all94).cps.toList i = some (all94.getD i.toNat 0) := by
  rw [tx_cps]
  have e : i = ((i.toNat : Nat) : Int) := by omega
  rw [e]
  unfold atI ixN
  have hlt : i.toNat < all94.length := by rw [all94_len]; omega
  rw [if_pos (by omega), if_pos (by omega)]
  show all94[((i.toNat : Nat) : Int).toNat]? = _
  rw [show ((i.toNat : Nat) : Int).toNat = i.toNat by omega, List.getElem?_eq_getElem hlt, List.getD_eq_getElem?_getD, List.getElem?_eq_getElem hlt]
  rfl
theorem ones_sum (l : List Nat) : ((l.map fun c => tx [c]).map (·.length)).sum = l.length := by
  induction l with
  | nil => rfl
  | cons a r ih =>
    rw [List.map_cons, List.map_cons, List.sum_cons, ih, tx_len, List.length_cons, List.length_cons]
    simp
    omega
def manyOf (c : Int) : Int := if c / 6 % 5 = 1 then 1 + c / 30 % 40 else 1 + c % 6
theorem manyOf_pos (c : Int) : 1 ≤ manyOf c ∧ manyOf c ≤ 40 := by
  unfold manyOf
  split
  · omega
  · omega
/-! halving as a function -/
def halveN : Nat → Int → List Int → List Int
  | 0, _, xs => xs
  | n + 1, cap, xs => if xs.sum ≤ cap then xs else halveN n cap (xs.map half)
theorem halveN_ok {cap : Int} : ∀ (m : Nat) (xs : List Int), xs.sum.toNat ≤ m → (∀ x ∈ xs, 1 ≤ x) → (xs.length : Int) ≤ cap → Halved cap xs (halveN m cap xs)
  | 0, xs, hm, h, hc => .stop (by have := sum_ge h; omega)
  | m + 1, xs, hm, h, hc => by
    unfold halveN
    by_cases hs : xs.sum ≤ cap
    · rw [if_pos hs]
      exact .stop hs
    · rw [if_neg hs]
      have := (sum_half h).2 (by omega)
      exact .step (by omega) (halveN_ok m (xs.map half) (by omega) (fun x hx => by
        obtain ⟨y, hy, rfl⟩ := List.mem_map.mp hx
        exact (half_pos (h y hy)).1) (by rw [List.length_map]; exact hc))
theorem halved_fun {cap : Int} {xs ys zs : List Int} (h : Halved cap xs ys) (g : Halved cap xs zs) : ys = zs := by
  induction h generalizing zs with
  | stop h =>
    cases g with
    | stop _ => rfl
    | step h' _ => omega
  | step h _ ih =>
    cases g with
    | stop h' => omega
    | step _ g' => exact ih g'
theorem halved_pos {cap : Int} {xs ys : List Int} (h : Halved cap xs ys) (hp : ∀ x ∈ xs, 1 ≤ x) : (∀ y ∈ ys, 1 ≤ y) ∧ ys.sum ≤ cap := by
  induction h with
  | stop h => exact ⟨hp, h⟩
  | step _ _ ih =>
    refine ih fun x hx => ?_
    obtain ⟨y, hy, rfl⟩ := List.mem_map.mp hx
    exact (half_pos (hp y hy)).1
theorem le_sum : ∀ {xs : List Int}, (∀ x ∈ xs, 1 ≤ x) → ∀ x ∈ xs, x ≤ xs.sum
  | [], _, x, hx => by simp at hx
  | y :: r, h, x, hx => by
    have h1 := h y List.mem_cons_self
    have h2 := sum_ge (xs := r) fun z hz => h z (List.mem_cons_of_mem _ hz)
    rw [List.sum_cons]
    rcases List.mem_cons.mp hx with e | hx
    · omega
    · have := le_sum (xs := r) (fun z hz => h z (List.mem_cons_of_mem _ hz)) x hx
      omega
def learntF (cap : Int) (ns cs : List Int) : List Int := halveN (sumZ ns cs).sum.toNat cap (sumZ ns cs)
theorem learntF_ok {cap : Int} {ns cs : List Int} (hS : Shares ns) (hC : Counts cs ns.length) (hc : (ns.length : Int) ≤ cap) : Halved cap (sumZ ns cs) (learntF cap ns cs) :=
  halveN_ok _ _ (Nat.le_refl _) (sumZ_pos (fun x hx => (hS.2.2 x hx).1) fun y hy => (hC.2 y hy).1) (by rw [sumZ_len hC.1]; exact hc)
theorem learntF_len {cap : Int} {ns cs : List Int} (hS : Shares ns) (hC : Counts cs ns.length) (hc : (ns.length : Int) ≤ cap) : (learntF cap ns cs).length = ns.length := by
  rw [halved_len (learntF_ok hS hC hc), sumZ_len hC.1]
theorem learntF_shares {cap : Int} {ns cs : List Int} (hS : Shares ns) (hC : Counts cs ns.length) (hc : (ns.length : Int) ≤ cap) (h2 : cap ≤ 1000000) : Shares (learntF cap ns cs) := by
  obtain ⟨h3, h4⟩ := halved_pos (learntF_ok hS hC hc) (sumZ_pos (fun x hx => (hS.2.2 x hx).1) fun y hy => (hC.2 y hy).1)
  have hl := learntF_len hS hC hc
  refine ⟨by rw [hl]; exact hS.1, by rw [hl]; exact hS.2.1, fun x hx => ⟨h3 x hx, ?_⟩⟩
  have := le_sum h3 x hx
  omega
/-! books -/
def Signs (ss : List Nat) : Prop := 1 ≤ ss.length ∧ ss.length ≤ 40 ∧ ss.Nodup ∧ ∀ c ∈ ss, 32 ≤ c ∧ c ≤ 126
structure Bk where
  ss : List Nat
  size : Nat
  cap : Int
def BookOk (B : Bk) : Prop := Signs B.ss ∧ 1 ≤ B.size ∧ B.size ≤ 99 ∧ (B.ss.length : Int) ≤ B.cap ∧ B.cap ≤ 1000000
def bf (B : Bk) : List (Str × V) := [("signs", .str (tx B.ss)), ("size", .int (B.size : Int)), ("cap", .int B.cap)]
def BookAt (mg : Str → Option Value) (H : Hp) (b : Addr) (B : Bk) : Prop := ∃ dx, H b = some (.ins (cadr mg "Book") dx (bf B))
theorem bf_signs (B : Bk) : (bf B).lookup ("signs" : Str) = some (.str (tx B.ss)) := by unfold bf; (repeat (first | exact lk_eq | exact lk_nil | (refine (lk_ne (by decide +kernel)).trans ?_)))
theorem bf_size (B : Bk) : (bf B).lookup ("size" : Str) = some (.int (B.size : Int)) := by unfold bf; (repeat (first | exact lk_eq | exact lk_nil | (refine (lk_ne (by decide +kernel)).trans ?_)))
theorem bf_cap (B : Bk) : (bf B).lookup ("cap" : Str) = some (.int B.cap) := by unfold bf; (repeat (first | exact lk_eq | exact lk_nil | (refine (lk_ne (by decide +kernel)).trans ?_)))
theorem BookAt.ex {mg : Str → Option Value} {H H' : Hp} {b : Addr} {B : Bk} (h : BookAt mg H b B) (e : Ex H H') : BookAt mg H' b B := by
  obtain ⟨dx, h⟩ := h
  exact ⟨dx, e _ _ h⟩
theorem BookAt.exS {mg : Str → Option Value} {H H' : Hp} {b : Addr} {B : Bk} {ms : List Addr} (h : BookAt mg H b B) (e : ExS ms H H') (n : b ∉ ms) : BookAt mg H' b B := by
  obtain ⟨dx, h⟩ := h
  exact ⟨dx, e _ _ n h⟩
/-! what is learnt so far: shares, the signs that wait -/
structure LS where
  ns : List Int
  ws : List Nat
def LS.start (B : Bk) : LS := ⟨List.replicate B.ss.length 1, []⟩
def LS.step (B : Bk) (s : LS) (c : Nat) : LS := if (s.ws ++ [c]).length = B.size then ⟨learntF B.cap s.ns (countsOf B.ss (s.ws ++ [c])), []⟩ else ⟨s.ns, s.ws ++ [c]⟩
def LS.steps (B : Bk) (s : LS) (cs : List Nat) : LS := cs.foldl (LS.step B) s
structure LS.Ok (B : Bk) (s : LS) : Prop where
  sh : Shares s.ns
  len : s.ns.length = B.ss.length
  ws : s.ws.length < B.size
theorem counts_okB {B : Bk} {n : Nat} {bs : List Nat} (hn : n = B.ss.length) (hb : bs.length ≤ 99) : Counts (countsOf B.ss bs) n := by
  refine ⟨by simp [countsOf, hn], fun x hx => ?_⟩
  obtain ⟨c, _, rfl⟩ := List.mem_map.mp hx
  have := List.count_le_length (a := c) (l := bs)
  omega
theorem LS.start_ok {B : Bk} (h : BookOk B) : (LS.start B).Ok B := by
  obtain ⟨⟨h1, h2, _⟩, h3, _⟩ := h
  refine ⟨⟨by simpa [LS.start] using h1, by simpa [LS.start] using h2, fun x hx => ?_⟩, by simp [LS.start], by show 0 < B.size; omega⟩
  have : x = 1 := (List.mem_replicate.mp hx).2
  omega
theorem LS.step_ok {B : Bk} {s : LS} {c : Nat} (h : BookOk B) (hs : s.Ok B) : (s.step B c).Ok B := by
  obtain ⟨h1, h2, h3⟩ := hs
  have hl : (s.ws ++ [c]).length = s.ws.length + 1 := by simp
  obtain ⟨_, hz1, hz2, hc1, hc2⟩ := id h
  unfold LS.step
  by_cases e : (s.ws ++ [c]).length = B.size
  · rw [if_pos e]
    have hC := counts_okB (bs := s.ws ++ [c]) h2 (by omega)
    have hc : (s.ns.length : Int) ≤ B.cap := by rw [h2]; exact hc1
    exact ⟨learntF_shares h1 hC hc hc2, by rw [learntF_len h1 hC hc]; exact h2, by show 0 < B.size; omega⟩
  · rw [if_neg e]
    exact ⟨h1, h2, by show (s.ws ++ [c]).length < B.size; omega⟩
theorem LS.steps_ok {B : Bk} (h : BookOk B) : ∀ (cs : List Nat) (s : LS), s.Ok B → (s.steps B cs).Ok B
  | [], _, hs => hs
  | c :: cs, s, hs => LS.steps_ok h cs (s.step B c) (LS.step_ok h hs)
theorem LS.steps_snoc (B : Bk) (s : LS) (cs : List Nat) (c : Nat) : s.steps B (cs ++ [c]) = (s.steps B cs).step B c := by
  unfold LS.steps
  rw [List.foldl_append]
  rfl
theorem LS.steps_app (B : Bk) (s : LS) (cs ds : List Nat) : s.steps B (cs ++ ds) = (s.steps B cs).steps B ds := by
  unfold LS.steps
  rw [List.foldl_append]
def lf (sh wd : Addr) (ws : List Nat) (b : Addr) : List (Str × V) := [("shares", .ref sh), ("words", .ref wd), ("waits", .str (tx ws)), ("_book", .ref b)]
theorem lf_shares (sh wd : Addr) (ws : List Nat) (b : Addr) : (lf sh wd ws b).lookup ("shares" : Str) = some (.ref sh) := by unfold lf; (repeat (first | exact lk_eq | exact lk_nil | (refine (lk_ne (by decide +kernel)).trans ?_)))
theorem lf_words (sh wd : Addr) (ws : List Nat) (b : Addr) : (lf sh wd ws b).lookup ("words" : Str) = some (.ref wd) := by unfold lf; (repeat (first | exact lk_eq | exact lk_nil | (refine (lk_ne (by decide +kernel)).trans ?_)))
theorem lf_waits (sh wd : Addr) (ws : List Nat) (b : Addr) : (lf sh wd ws b).lookup ("waits" : Str) = some (.str (tx ws)) := by unfold lf; (repeat (first | exact lk_eq | exact lk_nil | (refine (lk_ne (by decide +kernel)).trans ?_)))
theorem lf_book (sh wd : Addr) (ws : List Nat) (b : Addr) : (lf sh wd ws b).lookup ("_book" : Str) = some (.ref b) := by unfold lf; (repeat (first | exact lk_eq | exact lk_nil | (refine (lk_ne (by decide +kernel)).trans ?_)))
theorem lf_put_shares (x sh wd : Addr) (ws : List Nat) (b : Addr) : putF "shares" (.ref x) (lf sh wd ws b) = lf x wd ws b := by unfold lf; (repeat (first | rw [pf_eq] | rw [pf_nil] | rw [pf_ne (by decide +kernel)]))
theorem lf_put_words (x sh wd : Addr) (ws : List Nat) (b : Addr) : putF "words" (.ref x) (lf sh wd ws b) = lf sh x ws b := by unfold lf; (repeat (first | rw [pf_eq] | rw [pf_nil] | rw [pf_ne (by decide +kernel)]))
theorem lf_put_waits (us : List Nat) (sh wd : Addr) (ws : List Nat) (b : Addr) : putF "waits" (.str (tx us)) (lf sh wd ws b) = lf sh wd us b := by unfold lf; (repeat (first | rw [pf_eq] | rw [pf_nil] | rw [pf_ne (by decide +kernel)]))
theorem lf_len (sh wd : Addr) (ws : List Nat) (b : Addr) : (lf sh wd ws b).length < 1000 := by show 4 < 1000; decide
/-- a learner at l; its two lists are none of those at av -/
def LrnV (mg : Str → Option Value) (H : Hp) (l b : Addr) (s : LS) (av : List Addr) : Prop :=
  ∃ dx sh wd, H l = some (.ins (cadr mg "Learner") dx (lf sh wd s.ws b)) ∧ H sh = some (.lst (s.ns.map V.int)) ∧ H wd = some (.lst (wv (HF.codes s.ns))) ∧ sh ∉ av ∧ wd ∉ av
abbrev LrnAt (mg : Str → Option Value) (H : Hp) (l b : Addr) (s : LS) : Prop := LrnV mg H l b s []
/-- all these places are taken -/
def Taken (H : Hp) (av : List Addr) : Prop := ∀ a ∈ av, ∃ o, H a = some o
theorem Taken.nil {H : Hp} : Taken H [] := fun a h => by simp at h
theorem Taken.ex {H H' : Hp} {av : List Addr} (h : Taken H av) (e : Ex H H') : Taken H' av := fun a ha => by
  obtain ⟨o, h⟩ := h a ha
  exact ⟨o, e _ _ h⟩
theorem Taken.not {H : Hp} {av : List Addr} {x : Addr} (h : Taken H av) (hx : H x = none) : x ∉ av := fun z => by
  obtain ⟨o, h⟩ := h x z
  rw [hx] at h
  cases h
theorem Taken.exS {H H' : Hp} {av ms : List Addr} (h : Taken H av) (e : ExS ms H H') (hm : Taken H' ms) : Taken H' av := fun a ha => by
  by_cases hc : a ∈ ms
  · exact hm a hc
  · obtain ⟨o, h⟩ := h a ha
    exact ⟨o, e _ _ hc h⟩
theorem Taken.one {H : Hp} {x : Addr} {o : HO} (hx : H x = some o) : Taken H [x] := fun a ha => by
  rw [List.mem_singleton.mp ha]
  exact ⟨o, hx⟩
theorem Taken.cons {H : Hp} {av : List Addr} {x : Addr} {o : HO} (h : Taken H av) (hx : H x = some o) : Taken H (x :: av) := fun a ha => by
  rcases List.mem_cons.mp ha with e | ha
  · exact ⟨o, by rw [e]; exact hx⟩
  · exact h a ha
theorem LrnV.ex {mg : Str → Option Value} {H H' : Hp} {l b : Addr} {s : LS} {av : List Addr} (h : LrnV mg H l b s av) (e : Ex H H') : LrnV mg H' l b s av := by
  obtain ⟨dx, sh, wd, h1, h2, h3, h4⟩ := h
  exact ⟨dx, sh, wd, e _ _ h1, e _ _ h2, e _ _ h3, h4⟩
theorem LrnV.sub {mg : Str → Option Value} {H : Hp} {l b : Addr} {s : LS} {av aw : List Addr} (h : LrnV mg H l b s av) (e : ∀ a ∈ aw, a ∈ av) : LrnV mg H l b s aw := by
  obtain ⟨dx, sh, wd, h1, h2, h3, h4, h5⟩ := h
  exact ⟨dx, sh, wd, h1, h2, h3, fun z => h4 (e _ z), fun z => h5 (e _ z)⟩
/-- what is new is none of its lists -/
theorem LrnV.cons {mg : Str → Option Value} {H : Hp} {l b r : Addr} {s : LS} {av : List Addr} (h : LrnV mg H l b s av) (hr : H r = none) : LrnV mg H l b s (r :: av) := by
  obtain ⟨dx, sh, wd, h1, h2, h3, h4, h5⟩ := h
  refine ⟨dx, sh, wd, h1, h2, h3, fun z => ?_, fun z => ?_⟩
  · rcases List.mem_cons.mp z with z | z
    · rw [z, hr] at h2
      cases h2
    · exact h4 z
  · rcases List.mem_cons.mp z with z | z
    · rw [z, hr] at h3
      cases h3
    · exact h5 z
/-- instances stand at these places -/
def InsAt (H : Hp) (ms : List Addr) : Prop := ∀ a ∈ ms, ∃ C dx fs, H a = some (.ins C dx fs)
theorem InsAt.not {H : Hp} {ms : List Addr} {a : Addr} {xs : List V} (h : InsAt H ms) (e : H a = some (.lst xs)) : a ∉ ms := fun hm => by
  obtain ⟨C, dx, fs, h1⟩ := h a hm
  rw [e] at h1
  cases h1
theorem InsAt.one {H : Hp} {a C dx : Addr} {fs : List (Str × V)} (h : H a = some (.ins C dx fs)) : InsAt H [a] := fun b hb => by
  rw [List.mem_singleton.mp hb]
  exact ⟨C, dx, fs, h⟩
theorem LrnV.ins {mg : Str → Option Value} {H : Hp} {l b : Addr} {s : LS} {av : List Addr} (h : LrnV mg H l b s av) : ∃ C dx fs, H l = some (.ins C dx fs) := by
  obtain ⟨dx, sh, wd, h1, _⟩ := h
  exact ⟨_, _, _, h1⟩
theorem LrnV.taken {mg : Str → Option Value} {H : Hp} {l b : Addr} {s : LS} {av : List Addr} (h : LrnV mg H l b s av) : Taken H [l] := by
  obtain ⟨C, dx, fs, h1⟩ := h.ins
  exact Taken.one h1
theorem LrnV.insAt {mg : Str → Option Value} {H : Hp} {l b : Addr} {s : LS} {av : List Addr} (h : LrnV mg H l b s av) : InsAt H [l] := by
  obtain ⟨C, dx, fs, h1⟩ := h.ins
  exact InsAt.one h1
theorem LrnV.exS {mg : Str → Option Value} {H H' : Hp} {l b : Addr} {s : LS} {av ms : List Addr} (h : LrnV mg H l b s av) (e : ExS ms H H') (n : l ∉ ms) (hi : InsAt H ms) : LrnV mg H' l b s av := by
  obtain ⟨dx, sh, wd, h1, h2, h3, h4⟩ := h
  exact ⟨dx, sh, wd, e _ _ n h1, e _ _ (hi.not h2) h2, e _ _ (hi.not h3) h3, h4⟩
/-- one of the others is changed -/
theorem LrnV.mut {mg : Str → Option Value} {H H' : Hp} {l b : Addr} {s : LS} {av ms : List Addr} (h : LrnV mg H l b s av) (e : ExS ms H H') (n : l ∉ ms) (hs : ∀ a ∈ ms, a ∈ av) : LrnV mg H' l b s av := by
  obtain ⟨dx, sh, wd, h1, h2, h3, h4, h5⟩ := h
  exact ⟨dx, sh, wd, e _ _ n h1, e _ _ (fun z => h4 (hs _ z)) h2, e _ _ (fun z => h5 (hs _ z)) h3, h4, h5⟩
/-! the signs of the laws are all other -/
theorem all94_nodup : all94.Nodup := by decide +kernel
theorem all94_mem : ∀ c ∈ all94, 32 ≤ c ∧ c ≤ 126 := by decide +kernel
theorem step94 : ∀ t : Fin 23, ∀ d : Fin 42, d.val ≠ 0 → (d.val * (1 + 2 * t.val)) % 94 ≠ 0 := by decide +kernel
theorem signsOf_ok {c : Int} {m : Nat} (h1 : 1 ≤ m) (h2 : m ≤ 42) : (signsOf c m).Nodup ∧ ∀ x ∈ signsOf c m, 32 ≤ x ∧ x ≤ 126 := by
  have hlen : all94.length = 94 := all94_len
  have hat : ∀ i : Int, ((i % 94).toNat) < all94.length := fun i => by rw [hlen]; omega
  constructor
  · unfold signsOf
    refine List.pairwise_iff_getElem.mpr fun i j hi hj hij => ?_
    rw [List.length_map, List.length_range] at hi hj
    rw [List.getElem_map, List.getElem_map, List.getElem_range, List.getElem_range]
    intro h
    rw [List.getD_eq_getElem?_getD, List.getD_eq_getElem?_getD, List.getElem?_eq_getElem (hat _), List.getElem?_eq_getElem (hat _)] at h
    have h := (List.getElem_inj all94_nodup).mp h
    have ht := Int.emod_nonneg (c / 94) (show (23 : Int) ≠ 0 by decide)
    have ht2 := Int.emod_lt_of_pos (c / 94) (show (0 : Int) < 23 by decide)
    obtain ⟨t, et⟩ : ∃ t : Nat, c / 94 % 23 = (t : Int) := ⟨(c / 94 % 23).toNat, by omega⟩
    rw [et] at h ht2
    obtain ⟨d, rfl⟩ : ∃ d, j = i + d := ⟨j - i, by omega⟩
    have key := step94 ⟨t, by omega⟩ ⟨d, by omega⟩ (by show d ≠ 0; omega)
    have key : (d * (1 + 2 * t)) % 94 ≠ 0 := key
    have e1 : ((c + ((i : Nat) : Int) * (1 + 2 * (t : Int))) % 94) = ((c + ((i + d : Nat) : Int) * (1 + 2 * (t : Int))) % 94) := by omega
    have e2 : ((i + d : Nat) : Int) * (1 + 2 * (t : Int)) = ((i : Nat) : Int) * (1 + 2 * (t : Int)) + ((d * (1 + 2 * t) : Nat) : Int) := by
      rw [Int.natCast_add, Int.add_mul, Int.natCast_mul, Int.natCast_add, Int.natCast_mul]
      rfl
    rw [e2] at e1
    generalize ((i : Nat) : Int) * (1 + 2 * (t : Int)) = w at e1
    generalize d * (1 + 2 * t) = z at e1 key
    omega
  · intro x hx
    unfold signsOf at hx
    obtain ⟨k, _, rfl⟩ := List.mem_map.mp hx
    rw [List.getD_eq_getElem?_getD, List.getElem?_eq_getElem (hat _)]
    exact all94_mem _ (List.getElem_mem _)
theorem signs_ok {c : Int} {m : Nat} (h1 : 1 ≤ m) (h2 : m ≤ 40) : Signs (signsOf c m) := by
  have := signsOf_ok (c := c) h1 (by omega)
  exact ⟨by rw [signsOf_len]; exact h1, by rw [signsOf_len]; exact h2, this.1, this.2⟩
/-- the laws' book -/
def bkZ (c : Int) : Int := if c / 6 % 4 = 1 then 1 + c / 24 % 99 else 1 + c % 6
def bkS (m z : Int) : Int := if m > 9 then (if 9 > z then 9 else z) else z
def bkC (m c : Int) : Int := if c / 12 % 4 = 1 then m + c / 48 % (1000001 - m) else m + c % 12
theorem bkZ_ok (c : Int) : 1 ≤ bkZ c ∧ bkZ c ≤ 99 := by
  unfold bkZ
  split <;> omega
theorem bkS_ok {m z : Int} (h : 1 ≤ z ∧ z ≤ 99) : 1 ≤ bkS m z ∧ bkS m z ≤ 99 := by
  unfold bkS
  split <;> (try split) <;> omega
theorem bkC_ok {m c : Int} (h : 1 ≤ m ∧ m ≤ 40) : m ≤ bkC m c ∧ bkC m c ≤ 1000000 := by
  have g1 := Int.emod_nonneg (c / 48) (show (1000001 - m) ≠ 0 by omega)
  have g2 := Int.emod_lt_of_pos (c / 48) (show 0 < (1000001 - m) by omega)
  unfold bkC
  split <;> omega
def bookOf (ns : List Int) : Bk := ⟨signsOf (cel ns 1) (manyOf (cel ns 0)).toNat, (bkS (manyOf (cel ns 0)) (bkZ (cel ns 2))).toNat, bkC (manyOf (cel ns 0)) (cel ns 3)⟩
theorem bookOf_ok (ns : List Int) : BookOk (bookOf ns) := by
  have hm := manyOf_pos (cel ns 0)
  have h1 := bkS_ok (m := manyOf (cel ns 0)) (bkZ_ok (cel ns 2))
  have h2 := bkC_ok (c := cel ns 3) hm
  refine ⟨signs_ok (by omega) (by omega), ?_, ?_, ?_, h2.2⟩
  · show 1 ≤ Int.toNat _
    omega
  · show Int.toNat _ ≤ 99
    omega
  · show ((signsOf (cel ns 1) (manyOf (cel ns 0)).toNat).length : Int) ≤ bkC _ _
    rw [signsOf_len]
    omega
/-- the laws' texts -/
def textOf (ns : List Int) (f : Nat) (ss : List Nat) (n : Nat) : List Nat := (List.range n).map fun k : Nat => ss.getD ((cel ns (f + 1 + k) + (k : Int) * (cel ns f % 5)) % (ss.length : Int)).toNat 0
theorem textOf_len (ns : List Int) (f : Nat) (ss : List Nat) (n : Nat) : (textOf ns f ss n).length = n := by simp [textOf]
theorem textOf_mem {ns : List Int} {f : Nat} {ss : List Nat} {n : Nat} (h : 1 ≤ ss.length) : ∀ c ∈ textOf ns f ss n, c ∈ ss := fun c hc => by
  unfold textOf at hc
  obtain ⟨k, _, rfl⟩ := List.mem_map.mp hc
  have g1 := Int.emod_nonneg (cel ns (f + 1 + k) + (k : Int) * (cel ns f % 5)) (show (ss.length : Int) ≠ 0 by omega)
  have g2 := Int.emod_lt_of_pos (cel ns (f + 1 + k) + (k : Int) * (cel ns f % 5)) (show 0 < (ss.length : Int) by omega)
  rw [List.getD_eq_getElem?_getD, List.getElem?_eq_getElem (by omega)]
  exact List.getElem_mem _
end SP

set_option maxHeartbeats 4000000
namespace SP
open PySem L2 Evl
open PySem.W (Datum)
/-! == and != of nested data -/
def rEqX (K : PySem.W.Frag) (neg : Bool) : R2 := fun x y H Q => ∃ d e : PyData, Dp K H x d ∧ Dp K H y e ∧ d.plain = true ∧ e.plain = true ∧ d.depth ≤ 64 ∧ Q (.bl (neg != PyData.eqv d e)) H
theorem op_eqX {X : Cx} (hu : X.A.units + 64 < cLine) : OpR X (compareOp .Eq) (rEqX X.K false) := by
  intro pins s σ H x y v u Q I rx ry h
  obtain ⟨d, e, hd, he, sd, se, hz, q⟩ := h
  obtain ⟨as, r1⟩ := Dp.reads I d x v hd rx
  obtain ⟨bs, r2⟩ := Dp.reads I e y u he ry
  refine PySem.SeqAt.eq_plain r1 r2 sd se (by omega) ⟨.bl _, H, I, rfl, ?_⟩
  simpa using q
theorem op_neX {X : Cx} (hu : X.A.units + 64 < cLine) : OpR X (compareOp .NotEq) (rEqX X.K true) := by
  intro pins s σ H x y v u Q I rx ry h
  obtain ⟨d, e, hd, he, sd, se, hz, q⟩ := h
  obtain ⟨as, r1⟩ := Dp.reads I d x v hd rx
  obtain ⟨bs, r2⟩ := Dp.reads I e y u he ry
  refine PySem.SeqAt.ne_plain r1 r2 sd se (by omega) ⟨.bl _, H, I, rfl, ?_⟩
  simpa using q
mutual
theorem Dp.ex {K : PySem.W.Frag} {H H' : Hp} (e : Ex H H') : ∀ (d : PyData) (v : V), Dp K H v d → Dp K H' v d
  | _, _, .non => .non
  | _, _, .bl b => .bl b
  | _, _, .int i => .int i
  | _, _, .str x => .str x
  | _, _, .lst h r => .lst (ex_l e h) (DpAll.ex e _ _ r)
  | _, _, .tup h r => .tup (ex_t e h) (DpAll.ex e _ _ r)
theorem DpAll.ex {K : PySem.W.Frag} {H H' : Hp} (e : Ex H H') : ∀ (ds : List PyData) (vs : List V), DpAll K H vs ds → DpAll K H' vs ds
  | _, _, .nil => .nil
  | _, _, .cons h r => .cons (Dp.ex e _ _ h) (DpAll.ex e _ _ r)
end
/-- v is the datum x -/
def Is (K : PySem.W.Frag) (H : Hp) (v : V) {α : Type} [DecidableEq α] [Datum α] (x : α) : Prop := Dp K H v (Datum.toD x)
section
variable {K : PySem.W.Frag} {σ : L2.St} {H H' : Hp} {ta tb te : TE} {α β : Type} [DecidableEq α] [Datum α] [DecidableEq β] [Datum β] {v w : V} {x y : α}
theorem Is.ex (h : Is K H v x) (e : Ex H H') : Is K H' v x := Dp.ex e _ _ h
theorem rv_eqX (h1 : Is K H v x) (h2 : Is K H w y) (hd : Datum.depth α ≤ 64) : RV (rEqX K false) v w H (.bl (decide (x = y))) := fun H1 e1 Q q =>
  ⟨_, _, h1.ex e1, h2.ex e1, Datum.plain x, Datum.plain y, Nat.le_trans (Datum.depth_le x) hd, by
    rw [Datum.eqv]
    have := q H1 (Ex.refl _)
    simpa using this⟩
theorem rv_neX (h1 : Is K H v x) (h2 : Is K H w y) (hd : Datum.depth α ≤ 64) : RV (rEqX K true) v w H (.bl (!decide (x = y))) := fun H1 e1 Q q =>
  ⟨_, _, h1.ex e1, h2.ex e1, Datum.plain x, Datum.plain y, Nat.le_trans (Datum.depth_le x) hd, by
    rw [Datum.eqv]
    have := q H1 (Ex.refl _)
    simpa using this⟩
theorem rv_eqX1 (h1 : Is K H v x) (h2 : Is K H w x) (hd : Datum.depth α ≤ 64) : RV (rEqX K false) v w H (.bl true) := by
  have := rv_eqX h1 h2 hd
  simpa using this
theorem rv_neX0 (h1 : Is K H v x) (h2 : Is K H w x) (hd : Datum.depth α ≤ 64) : RV (rEqX K true) v w H (.bl false) := by
  have := rv_neX h1 h2 hd
  simpa using this
theorem is_int (i : Int) : Is K H (.int i) i := .int i
theorem is_str (z : Str) : Is K H (.str z) z := .str z
theorem dall {f : α → V} (h : ∀ x, Is K H (f x) x) : ∀ xs : List α, DpAll K H (xs.map f) (xs.map Datum.toD)
  | [] => .nil
  | x :: xs => .cons (h x) (dall h xs)
/-- items by place -/
theorem dall_at : ∀ {vs : List V} {xs : List α}, vs.length = xs.length → (∀ (i : Nat) v x, vs[i]? = some v → xs[i]? = some x → Is K H v x) → DpAll K H vs (xs.map Datum.toD)
  | [], [], _, _ => .nil
  | v :: vs, x :: xs, hl, h => .cons (h 0 v x rfl rfl) (dall_at (by simpa using hl) fun i v x h1 h2 => h (i + 1) v x (by simpa using h1) (by simpa using h2))
theorem is_listP {a : Addr} {vs : List V} {xs : List α} (h : SqL K H a vs) (hl : vs.length = xs.length) (hi : ∀ (i : Nat) v x, vs[i]? = some v → xs[i]? = some x → Is K H v x) : Is K H (.ref a) xs := .lst h (dall_at hl hi)
theorem is_pair {a : Addr} {v w : V} {x : α} {y : β} (h : SqT K H a [v, w]) (h1 : Is K H v x) (h2 : Is K H w y) : Is K H (.ref a) (x, y) := .tup h (.cons h1 (.cons h2 .nil))
theorem is_ints {a : Addr} {ns : List Int} (h : SqL K H a (ns.map V.int)) : Is K H (.ref a) ns := .lst h (dall (f := V.int) (fun i => is_int i) ns)
theorem is_strs {a : Addr} {zs : List Str} (h : SqL K H a (zs.map V.str)) : Is K H (.ref a) zs := .lst h (dall (f := V.str) (fun i => is_str i) zs)
end
def wz (D : HF.Wd) : List Str := D.map tx
theorem wz_inj {D E : HF.Wd} : wz D = wz E ↔ D = E := by
  constructor
  · intro h
    unfold wz at h
    induction D generalizing E with
    | nil => cases E with
      | nil => rfl
      | cons _ _ => simp at h
    | cons a D ih => cases E with
      | nil => simp at h
      | cons b E =>
        rw [List.map_cons, List.map_cons] at h
        injection h with h1 h2
        rw [tx_inj h1, ih h2]
  · intro h
    rw [h]
theorem is_words {K : PySem.W.Frag} {H : Hp} {a : Addr} {D : HF.Wd} (h : SqL K H a (wv D)) : Is K H (.ref a) (wz D) := is_strs (zs := wz D) (by
  have e : (wz D).map V.str = wv D := by
    unfold wz wv
    rw [List.map_map]
    rfl
  rw [e]
  exact h)
end SP
namespace SP
open PySem L2 Evl
open PySem.W (Datum)
/-- what evaluates to a datum, wherever it stands -/
def EvD (K : PySem.W.Frag) (te : TE) (σ : L2.St) (H : Hp) {α : Type} [DecidableEq α] [Datum α] (x : α) : Prop := ∀ H1, Ex H H1 → ∀ Q : VK, (∀ v H2, Ex H1 H2 → Is K H2 v x → Q v H2) → te σ H1 Q
section
variable {K : PySem.W.Frag} {σ : L2.St} {H H' : Hp} {ta tb te : TE} {α : Type} [DecidableEq α] [Datum α] {v w : V} {x y : α}
theorem ed_ev (h : Ev te σ H v) (i : Is K H v x) : EvD K te σ H x := fun H1 e Q q => h H1 e Q fun H2 e2 => q v H2 e2 (i.ex (e.trans e2))
theorem ed_eq (ha : EvD K ta σ H x) (hb : EvD K tb σ H y) (hd : Datum.depth α ≤ 64) : Ev (tOp (rEqX K false) ta tb) σ H (.bl (decide (x = y))) := fun H1 e Q q =>
  ha H1 e _ fun v H2 e2 h2 => hb H2 (e.trans e2) _ fun w H3 e3 h3 => rv_eqX (h2.ex e3) h3 hd H3 (Ex.refl _) Q fun H4 e4 => q H4 ((e2.trans e3).trans e4)
theorem ed_ne (ha : EvD K ta σ H x) (hb : EvD K tb σ H y) (hd : Datum.depth α ≤ 64) : Ev (tOp (rEqX K true) ta tb) σ H (.bl (!decide (x = y))) := fun H1 e Q q =>
  ha H1 e _ fun v H2 e2 h2 => hb H2 (e.trans e2) _ fun w H3 e3 h3 => rv_neX (h2.ex e3) h3 hd H3 (Ex.refl _) Q fun H4 e4 => q H4 ((e2.trans e3).trans e4)
theorem ed_eq1 (ha : EvD K ta σ H x) (hb : EvD K tb σ H x) (hd : Datum.depth α ≤ 64) : Ev (tOp (rEqX K false) ta tb) σ H (.bl true) := by
  have := ed_eq ha hb hd
  simpa using this
theorem ed_ne0 (ha : EvD K ta σ H x) (hb : EvD K tb σ H x) (hd : Datum.depth α ≤ 64) : Ev (tOp (rEqX K true) ta tb) σ H (.bl false) := by
  have := ed_ne ha hb hd
  simpa using this
theorem ed_words {D : HF.Wd} (h : EvL te σ H (wv D)) : EvD K te σ H (wz D) := fun H1 e Q q => h H1 e Q fun p H2 _ e2 h2 => q _ H2 e2 (is_words (sq_of h2))
theorem ed_ints {ns : List Int} (h : EvL te σ H (ns.map V.int)) : EvD K te σ H ns := fun H1 e Q q => h H1 e Q fun p H2 _ e2 h2 => q _ H2 e2 (is_ints (sq_of h2))
end
/-- list(..) of a list, in a comprehension -/
theorem call_list_ofK {X : Cx} {K : PySem.W.Frag} (hK : X.K = K) : CallR X (.type "list") (rListS K) := by
  subst hK
  exact call_list_of
section
variable {K : PySem.W.Frag} {σ : L2.St} {H H' : Hp} {ta tb te tl : TE}
/-- a call, its promise at the heap as it stands then -/
theorem er_cal {sp : Sp} {vs : List V} {E : XK} {Q : VK} {t : TA} (ha : EvA t σ H vs) (k : ∀ H1, Ex H H1 → sp vs H1 Q E) : tCall sp [] E t σ H Q :=
  ha H (Ex.refl H) _ fun H1 e1 => by
    rw [List.append_nil]
    exact k H1 e1
/-- a comprehension over a list that is new -/
theorem el_mapNL {xs : List V} {j : Nat} {vs : List Nat} (ys : List V) (h : EvL tl σ H xs) (hn : ys.length = xs.length) (hz : xs.length ≤ 40000) (hw : ∀ x, wipe ((wipe σ vs).set j (some x)) vs = wipe σ vs)
    (he : ∀ (i : Nat) (x y : V) H1, Ex H H1 → xs[i]? = some x → ys[i]? = some y → Ev te ((wipe σ vs).set j (some x)) H1 y) : EvL (tLc (iList K tl) (gName j) tYes te vs) σ H ys := fun H0 e Q q => h H0 e _ fun a H1 ha e1 hx => ⟨a, rfl, ⟨xs, sq_of hx⟩, fun Dl hD =>
  lc_list (xs := xs) (Cm H1 ys Dl) ⟨hD, Ex.new hD, upd_same⟩ (fun i H' _ p => sq_of (p.2.1 _ _ hx)) (fun i x H' hi p => by
    obtain ⟨y, hy⟩ := get_of hn (List.getElem?_eq_some_iff.mp hi).1
    refine ⟨hw x, ?_⟩
    show te _ H' _
    exact cm_turn p (Ex.refl _) hy (by omega) (he i x y H1 (e.trans e1) hi hy)) (fun H' p => q Dl H' (fresh_back e1 p.1) (e1.trans p.2.1) (cm_end p hn))⟩
theorem rv_ixT0 {p : Addr} {v : V} {xs : List V} (h : SqT K H p (v :: xs)) : RV (rIxT K) (.ref p) (.int 0) H v := rv_ixT h (by
  show atI (v :: xs) ((0 : Nat) : Int) = some v
  exact atI_nat rfl)
theorem rv_ixT1 {p : Addr} {u v : V} {xs : List V} (h : SqT K H p (u :: v :: xs)) : RV (rIxT K) (.ref p) (.int 1) H v := rv_ixT h (by
  show atI (u :: v :: xs) ((1 : Nat) : Int) = some v
  exact atI_nat rfl)
end
end SP
namespace SP
open PySem L2 Evl
/-- what isinstance asks of an own class -/
structure KiC (K : PySem.W.Frag) (C : Addr) : Prop where
  k1 : PySem.W.findIn K (.ref C) "__class__" = some (some (.builtin "object.__class__"))
  k2 : PySem.W.specialIn K (.builtin "object.__class__") "__get__" = some (some (.builtin "getset_descriptor.__get__"))
  k3 : PySem.W.takesIn K (.builtin "object.__class__") = some true
  k4 : PySem.W.mroIn K C (.type "object") = some true
  k5 : PySem.W.kitOne K (.ref C) (.ref C) = some true
section
variable {K : PySem.W.Frag} {σ : L2.St} {H H' : Hp} {ta tb te tl : TE}
/-- isinstance(x, C), x an instance of C -/
theorem ev_isiC {p C dx : Addr} {fs : List (Str × V)} (ha : Ev ta σ H (.ref p)) (hb : Ev tb σ H (.ref C)) (hp : H p = some (.ins C dx fs)) (c : Cls K C) (hk : KiC K C) : Ev (tCB (rIsi K) (tCons ta (tCons tb tNil))) σ H (.bl true) := fun H1 e Q q =>
  ha H1 e _ fun H2 e2 => hb H2 (e.trans e2) _ fun H3 e3 => ⟨.ref p, .ref C, .ref C, .ref C, true, rfl, .own C, .base (.ins (((e.trans e2).trans e3) _ _ hp) c hk.k1 hk.k2 hk.k3 hk.k4), hk.k5, q H3 (e2.trans e3)⟩
end
end SP

set_option maxHeartbeats 4000000
namespace SP
open PySem L2 Evl
/-! packing: the mathematics -/
theorem idx_least {l : List Nat} {c : Nat} : ∀ {i : Nat}, l[i]? = some c → l.idxOf c ≤ i := by
  induction l with
  | nil => intro i h; simp at h
  | cons a r ih =>
    intro i h
    by_cases e : a = c
    · rw [e, List.idxOf_cons_self]
      exact Nat.zero_le _
    · rw [List.idxOf_cons, show (a == c) = false by simpa using e]
      show List.idxOf c r + 1 ≤ i
      cases i with
      | zero => exact absurd (by simpa using h) e
      | succ i =>
        have := ih (i := i) (by simpa using h)
        omega
theorem idx_at {l : List Nat} {c : Nat} (h : c ∈ l) : l[l.idxOf c]? = some c := by
  have hl := List.idxOf_lt_length_of_mem h
  rw [List.getElem?_eq_getElem hl, List.getElem_idxOf]
theorem idx_nodup {l : List Nat} (hn : l.Nodup) {i c : Nat} (h : l[i]? = some c) : l.idxOf c = i := by
  have h1 := idx_at (List.mem_of_getElem? h)
  obtain ⟨hi, e⟩ := List.getElem?_eq_some_iff.mp h
  obtain ⟨hj, e2⟩ := List.getElem?_eq_some_iff.mp h1
  exact (List.getElem_inj hn).mp (e2.trans e.symm)
theorem idx_occ {l : List Nat} {c : Nat} (h : c ∈ l) : ∃ rest, Builtin.Str.occurrences (tx l) (tx [c]) 0 (tx l).length 1 = l.idxOf c :: rest := by
  rcases StrLaws.occ_head (tx l) (tx [c]) 1 (Nat.le_refl _) with ⟨h0, hn⟩ | ⟨i, r, e, ha, hn⟩
  · exact absurd ((StrLaws.subAt_one (tx l) c (l.idxOf c)).mpr (by rw [tx_cps]; exact idx_at h)) (hn (l.idxOf c))
  · have hi : l[i]? = some c := by
      have := (StrLaws.subAt_one (tx l) c i).mp ha
      rwa [tx_cps] at this
    have h1 := idx_least hi
    have h2 : ¬ l.idxOf c < i := fun z => hn _ z ((StrLaws.subAt_one (tx l) c (l.idxOf c)).mpr (by rw [tx_cps]; exact idx_at h))
    have e2 : i = l.idxOf c := by omega
    exact ⟨r, by rw [e, e2]⟩
theorem join_words : ∀ D : HF.Wd, Txt.join (tx []) (wz D) = tx D.flatten := fun D => by
  show Builtin.Str.glued _ _ = _
  rw [StrLaws.glued_eq_join]
  induction D with
  | nil => rfl
  | cons a r ih =>
    cases r with
    | nil =>
      show tx a = tx (a ++ [])
      rw [List.append_nil]
    | cons b r =>
      show tx a ++ tx [] ++ Str.join (tx []) (wz (b :: r)) = tx (a ++ (b :: r).flatten)
      rw [ih, tx_app, tx_app, List.append_nil]
theorem wv_wz (D : HF.Wd) : wv D = (wz D).map V.str := by
  unfold wz wv
  rw [List.map_map]
  rfl
def code1 (B : Bk) (s : LS) (c : Nat) : List Nat := (HF.codes s.ns).getD (B.ss.idxOf c) []
def packL (B : Bk) : LS → List Nat → HF.Wd
  | _, [] => []
  | s, c :: cs => code1 B s c :: packL B (s.step B c) cs
def packF (B : Bk) (s : LS) (cs : List Nat) : List Nat := (packL B s cs).flatten
theorem packL_app (B : Bk) : ∀ (cs ds : List Nat) (s : LS), packL B s (cs ++ ds) = packL B s cs ++ packL B (s.steps B cs) ds
  | [], _, _ => rfl
  | c :: cs, ds, s => by
    show code1 B s c :: packL B (s.step B c) (cs ++ ds) = code1 B s c :: (packL B (s.step B c) cs ++ packL B ((s.step B c).steps B cs) ds)
    rw [packL_app B cs ds]
theorem packF_app (B : Bk) (cs ds : List Nat) (s : LS) : packF B s (cs ++ ds) = packF B s cs ++ packF B (s.steps B cs) ds := by
  unfold packF
  rw [packL_app, List.flatten_append]
theorem packF_cons (B : Bk) (c : Nat) (cs : List Nat) (s : LS) : packF B s (c :: cs) = code1 B s c ++ packF B (s.step B c) cs := rfl
theorem packL_len (B : Bk) : ∀ (cs : List Nat) (s : LS), (packL B s cs).length = cs.length
  | [], _ => rfl
  | c :: cs, s => by
    show (packL B (s.step B c) cs).length + 1 = cs.length + 1
    rw [packL_len B cs]
theorem code1_get {B : Bk} {s : LS} {c : Nat} (hs : s.Ok B) (hc : c ∈ B.ss) : (HF.codes s.ns)[B.ss.idxOf c]? = some (code1 B s c) := by
  have hl : B.ss.idxOf c < (HF.codes s.ns).length := by
    rw [HF.codes_len, hs.len]
    exact List.idxOf_lt_length_of_mem hc
  unfold code1
  rw [List.getD_eq_getElem?_getD, List.getElem?_eq_getElem hl]
  rfl
theorem code1_ok {B : Bk} {s : LS} {c : Nat} (hs : s.Ok B) (hc : c ∈ B.ss) : (∀ b ∈ code1 B s c, b = 48 ∨ b = 49) ∧ (code1 B s c).length + 1 ≤ B.ss.length := by
  have := HF.code_bits hs.sh.1 (code1_get hs hc)
  rw [hs.len] at this
  exact this
theorem packF_ok {B : Bk} (hB : BookOk B) : ∀ (cs : List Nat) (s : LS), s.Ok B → (∀ c ∈ cs, c ∈ B.ss) → (∀ b ∈ packF B s cs, b = 48 ∨ b = 49) ∧ (packF B s cs).length ≤ 40 * cs.length
  | [], _, _, _ => ⟨fun b hb => by simp [packF, packL] at hb, by simp [packF, packL]⟩
  | c :: cs, s, hs, hm => by
    have h1 := code1_ok hs (hm c List.mem_cons_self)
    have h2 := packF_ok hB cs (s.step B c) (LS.step_ok hB hs) fun d hd => hm d (List.mem_cons_of_mem _ hd)
    have h3 := hB.1.2.1
    rw [packF_cons]
    refine ⟨fun b hb => ?_, by rw [List.length_append, List.length_cons]; omega⟩
    rcases List.mem_append.mp hb with hb | hb
    · exact h1.1 b hb
    · exact h2.1 b hb
theorem packL_sizes {B : Bk} (hB : BookOk B) (cs : List Nat) (s : LS) (hs : s.Ok B) (hm : ∀ c ∈ cs, c ∈ B.ss) : ((wz (packL B s cs)).map (·.length)).sum ≤ 40 * cs.length := by
  have h := (packF_ok hB cs s hs hm).2
  have e : ∀ D : HF.Wd, ((wz D).map (·.length)).sum = D.flatten.length := fun D => by
    induction D with
    | nil => rfl
    | cons a r ih =>
      show (tx a).length + ((wz r).map (·.length)).sum = (a ++ r.flatten).length
      rw [ih, tx_len, List.length_append]
  rw [e]
  exact h
/-! slices of a text -/
theorem cutS_mid (l : List Nat) (i j : Nat) : cutS (tx l) (some (i : Int)) (some (j : Int)) = tx ((l.drop i).take (j - i)) := by
  unfold cutS
  rw [HT.sIx_nat, HT.sIx_nat, tx_cps, tx_len]
  show tx _ = tx _
  congr 1
  by_cases hi : i ≤ l.length
  · rw [Nat.min_eq_left hi]
    by_cases hj : j ≤ l.length
    · rw [Nat.min_eq_left hj]
    · rw [Nat.min_eq_right (show l.length ≤ j by omega), List.take_of_length_le (by rw [List.length_drop]; omega), List.take_of_length_le (by rw [List.length_drop]; omega)]
  · rw [Nat.min_eq_right (show l.length ≤ i by omega), List.drop_of_length_le (Nat.le_refl _), List.drop_of_length_le (show l.length ≤ i by omega)]
    simp
theorem cutS_from (l : List Nat) (i : Nat) : cutS (tx l) (some (i : Int)) none = tx (l.drop i) := by
  unfold cutS
  rw [HT.sIx_none, HT.sIx_nat, tx_cps, tx_len]
  show tx _ = tx _
  congr 1
  by_cases hi : i ≤ l.length
  · rw [Nat.min_eq_left hi, List.take_of_length_le (by rw [List.length_drop]; omega)]
  · rw [Nat.min_eq_right (show l.length ≤ i by omega), List.drop_of_length_le (Nat.le_refl _), List.drop_of_length_le (show l.length ≤ i by omega)]
    simp
/-! range(0, n, c) -/
def turns (n c : Nat) : Nat := if 0 < n then (n - 1) / c + 1 else 0
theorem rgC_up {n c : Nat} (h1 : 1 ≤ c) (h2 : c ≤ 1000) (h3 : n ≤ 100000) : RgC 0 (n : Int) (c : Int) (turns n c) := by
  have hs : Builtin.Range.rangeSize 0 (n : Int) (c : Int) = ((turns n c : Nat) : Int) := by
    unfold Builtin.Range.rangeSize turns
    rw [if_pos (by omega)]
    by_cases hn : 0 < n
    · rw [if_pos (by omega), if_pos hn]
      have e : ((n : Int) - 0 - 1) = ((n - 1 : Nat) : Int) := by omega
      rw [e]
      rw [Int.natCast_add, Int.natCast_ediv]
      rfl
    · rw [if_neg (by omega), if_neg hn]
      rfl
  have hle : turns n c ≤ n := by
    unfold turns
    by_cases hn : 0 < n
    · rw [if_pos hn]
      have := Nat.div_le_self (n - 1) c
      omega
    · rw [if_neg hn]
      omega
  refine ⟨by omega, by omega, ?_, hs⟩
  unfold Builtin.Range.small
  rw [hs]
  generalize turns n c = m at hle
  simp only [Builtin.Range.rangeFitsLong, Bool.and_eq_true, Bool.or_eq_true, decide_eq_true_eq, beq_iff_eq]
  rw [if_pos (show (c : Int) > 0 by omega)]
  simp only [Bool.and_eq_true, decide_eq_true_eq]
  omega
section
variable {K : PySem.W.Frag} {σ : L2.St} {H H' : Hp} {ta tb tc te : TE} {x y z v : V} {D : Ends} {tz tu : TS}
theorem ev_midS {l : List Nat} {i j : Nat} (h : Ev te σ H (.str (tx l))) (ha : Ev ta σ H (.int (i : Int))) (hb : Ev tb σ H (.int (j : Int))) (hz : l.length ≤ 100000) : Ev (tSl rSlS te (tPart ta) (tPart tb)) σ H (.str (tx ((l.drop i).take (j - i)))) := fun H1 e Q q =>
  h H1 e _ fun H2 e2 => ha H2 (e.trans e2) _ fun H3 e3 => ⟨(i : Int), rfl, hb H3 ((e.trans e2).trans e3) _ fun H4 e4 => ⟨(j : Int), rfl, tx l, rfl, by rw [tx_len]; exact sz_of hz, by
    rw [cutS_mid]
    exact q H4 ((e2.trans e3).trans e4)⟩⟩
theorem ev_fromS {l : List Nat} {i : Nat} (h : Ev te σ H (.str (tx l))) (ha : Ev ta σ H (.int (i : Int))) (hz : l.length ≤ 100000) : Ev (tSl rSlS te (tPart ta) tNoPart) σ H (.str (tx (l.drop i))) := fun H1 e Q q =>
  h H1 e _ fun H2 e2 => ha H2 (e.trans e2) _ fun H3 e3 => ⟨(i : Int), rfl, tx l, rfl, by rw [tx_len]; exact sz_of hz, by
    rw [cutS_from]
    exact q H3 (e2.trans e3)⟩
/-- signs.index(sign) -/
theorem ev_idxS {l : List Nat} {c : Nat} {tr : TA} (ho : Ev te σ H (.str (tx l))) (ha : EvA tr σ H [.str (tx [c])]) (h : c ∈ l) :
    Ev (tBM K "str" (fun x xs H Q => ∃ a b i rest, x = .str a ∧ xs = [.str b] ∧ Builtin.Str.occurrences a b 0 a.length 1 = i :: rest ∧ Q (.int (i : Nat)) H) te tr) σ H (.int ((l.idxOf c : Nat) : Int)) :=
  ev_bmS ho ha fun H1 _ Q q => by
    obtain ⟨rest, e⟩ := idx_occ h
    exact ⟨tx l, tx [c], _, rest, rfl, rfl, e, q H1 (Ex.refl _)⟩
/-- sep.join(a list of texts that stands) -/
theorem ev_joinL {sep : Str} {ys : List Str} {p : Addr} (ho : Ev te σ H (.str sep)) (hl : Ev tb σ H (.ref p)) (hs : SqL K H p (ys.map V.str)) (hz : (ys.map (·.length)).sum + ys.length * sep.length ≤ 16777216) :
    Ev (tBM K "str" (fun x xs H Q => ∃ a p, ∃ ys : List Str, x = .str a ∧ xs = [.ref p] ∧ (SqL K H p (ys.map V.str) ∨ SqT K H p (ys.map V.str)) ∧ (ys.map (·.length)).sum + ys.length * a.length ≤ 16777216 ∧ Q (.str (Txt.join a ys)) H) te (tCons tb tNil)) σ H (.str (Txt.join sep ys)) := fun H1 e Q q =>
  ho H1 e _ fun H2 e2 => ⟨rfl, hl H2 (e.trans e2) _ fun H3 e3 => ⟨sep, p, ys, rfl, rfl, .inl (ex_l ((e.trans e2).trans e3) hs), hz, q H3 (e2.trans e3)⟩⟩
theorem rv_niS {c : Nat} {l : List Nat} : RV (fun x y H Q => ∃ (c : Nat) (z : Str), x = .str ⟨#[c]⟩ ∧ y = .str z ∧ Q (.bl (!decide (c ∈ z.cps.toList))) H) (.str (tx [c])) (.str (tx l)) H (.bl (!decide (c ∈ l))) := fun H1 _ Q q =>
  ⟨c, tx l, rfl, rfl, by
    rw [tx_cps]
    exact q H1 (Ex.refl _)⟩
theorem rv_inS {c : Nat} {l : List Nat} : RV (fun x y H Q => ∃ (c : Nat) (z : Str), x = .str ⟨#[c]⟩ ∧ y = .str z ∧ Q (.bl (decide (c ∈ z.cps.toList))) H) (.str (tx [c])) (.str (tx l)) H (.bl (decide (c ∈ l))) := fun H1 _ Q q =>
  ⟨c, tx l, rfl, rfl, by
    rw [tx_cps]
    exact q H1 (Ex.refl _)⟩
/-- for x in range(0, n, c) -/
theorem q_for3 {tr : TA} {j n c : Nat} (h : EvA tr σ H [.int 0, .int (n : Int), .int (c : Int)]) (h1 : 1 ≤ c) (h2 : c ≤ 1000) (h3 : n ≤ 100000) (Pv : Nat → L2.St → Hp → Prop) (h0 : ∀ H1, Ex H H1 → Pv 0 σ H1)
    (hs : ∀ (i : Nat) σ' H', i < turns n c → Pv i σ' H' → tu { D with nx := Pv (i + 1), ct := Pv (i + 1), bk := tz D } (σ'.set j (some (.int ((i * c : Nat) : Int)))) H') (hd : ∀ σ' H', Pv (turns n c) σ' H' → tz D σ' H') :
    tSeq (tFor (iRng3 tr) (gName j) tu) tz D σ H :=
  h H (Ex.refl H) _ fun H1 e => ⟨0, (n : Int), (c : Int), turns n c, rfl, rgC_up h1 h2 h3, for_rangeC (D := { D with nx := tz D }) Pv (h0 H1 e) (fun i σ' H' hi p => by
    have e0 : (0 : Int) + (i : Int) * (c : Int) = ((i * c : Nat) : Int) := by rw [Int.natCast_mul]; omega
    show tu { D with nx := Pv (i + 1), ct := Pv (i + 1), bk := tz D } (σ'.set j (some (.int ((0 : Int) + (i : Int) * (c : Int))))) H'
    rw [e0]
    exact hs i σ' H' hi p) hd⟩
end
end SP
namespace SP
open PySem L2 Evl
section
variable {K : PySem.W.Frag} {σ : L2.St} {H H' : Hp} {t : TA} {D : Ends} {tz : TS}
/-- name.f = C(..) -/
theorem q_fldM {C p : Addr} {sp : Sp} {vs : List V} {E : XK} {f : Str} {i : Nat} (ha : EvA t σ H vs) (ho : σ[i]? = some (some (.ref p)))
    (k : ∀ H1 x dx, Ex H H1 → H1 x = none → H1 dx = none → dx ≠ x → sp (.ref x :: vs) (upd (upd H1 dx (.own x)) x (.ins C dx [])) (fun v H2 => v = .non ∧ ∃ C' dx' fs, H2 p = some (.ins C' dx' fs) ∧ Cls K C' ∧ NoAttr K C' f ∧ fs.length < 1000 ∧ tz D σ (upd H2 p (.ins C' dx' (putF f (.ref x) fs)))) E) :
    tSeq (sFld K (tVar i) (tMake C sp [] E t) f) tz D σ H :=
  er_mkr (Q := fun y H1 => tVar i σ H1 fun x H2 => ∃ a C dx fs, x = .ref a ∧ H2 a = some (.ins C dx fs) ∧ Cls K C ∧ NoAttr K C f ∧ fs.length < 1000 ∧ tz D σ (upd H2 a (.ins C dx (putF f y fs)))) ha fun H1 x dx e1 hx hd hn => by
    have e : (fun (v : V) (H2 : Hp) => v = .non ∧ ∃ C' dx' fs, H2 p = some (.ins C' dx' fs) ∧ Cls K C' ∧ NoAttr K C' f ∧ fs.length < 1000 ∧ tz D σ (upd H2 p (.ins C' dx' (putF f (.ref x) fs)))) =
        (fun (v : V) (H2 : Hp) => v = .non ∧ tVar i σ H2 fun z H2 => ∃ a C dx fs, z = .ref a ∧ H2 a = some (.ins C dx fs) ∧ Cls K C ∧ NoAttr K C f ∧ fs.length < 1000 ∧ tz D σ (upd H2 a (.ins C dx (putF f (.ref x) fs)))) := by
      funext v H2
      refine propext (and_congr Iff.rfl ⟨fun ⟨C', dx', fs, h1, h2, h3, h4, h5⟩ => ⟨.ref p, ho, p, C', dx', fs, rfl, h1, h2, h3, h4, h5⟩, fun ⟨w, hw, a, C', dx', fs, h0, h1, h2, h3, h4, h5⟩ => ?_⟩)
      rw [ho] at hw
      have hw := Option.some.inj (Option.some.inj hw)
      rw [← hw] at h0
      cases h0
      exact ⟨C', dx', fs, h1, h2, h3, h4, h5⟩
    have h := k H1 x dx e1 hx hd hn
    rw [e] at h
    exact h
end
end SP
namespace SP
open PySem L2 Evl
section
variable {K : PySem.W.Frag} {σ : L2.St} {H H' : Hp} {ta te : TE} {t : TA} {D : Ends} {tz : TS}
theorem s_retQ (h : te σ H D.rt) : tRet te D σ H := h
theorem q_asgQ {i : Nat} (h : te σ H (fun v H1 => tz D (σ.set i (some v)) H1)) : tSeq (tAsg te (gName i)) tz D σ H := h
theorem s_asgQ {i : Nat} (h : te σ H (fun v H1 => D.nx (σ.set i (some v)) H1)) : tAsg te (gName i) D σ H := h
theorem s_dropQ (h : te σ H (fun _ H1 => D.nx σ H1)) : tDrop te D σ H := h
theorem q_dropQ (h : te σ H (fun _ H1 => tz D σ H1)) : tSeq (tDrop te) tz D σ H := h
/-- a method's call whose receiver is told by its own reading -/
theorem er_of {C : Addr} {m : Str} {sp : Sp} {E : XK} {Q : VK} (h : ta σ H fun x H1 => ∃ a dx fs, x = .ref a ∧ H1 a = some (.ins C dx fs) ∧ fs.lookup m = none ∧ t σ H1 fun vs H2 => sp (x :: vs) H2 Q E) : tMeth C m sp [] E ta t σ H Q := by
  have e : (fun (x : V) (H1 : Hp) => ∃ a dx fs, x = .ref a ∧ H1 a = some (.ins C dx fs) ∧ fs.lookup m = none ∧ t σ H1 fun vs H2 => sp (x :: vs) H2 Q E) =
      (fun (x : V) (H1 : Hp) => ∃ a dx fs, x = .ref a ∧ H1 a = some (.ins C dx fs) ∧ fs.lookup m = none ∧ t σ H1 fun vs H2 => sp (x :: (vs ++ [])) H2 Q E) := by
    funext x H1
    simp only [List.append_nil]
  rw [e] at h
  exact h
end
end SP

set_option maxHeartbeats 4000000
namespace SP
open PySem L2 Evl
/-! blocks -/
theorem LS.wait {B : Bk} : ∀ (cs : List Nat) (s : LS), s.ws.length + cs.length < B.size → s.steps B cs = ⟨s.ns, s.ws ++ cs⟩
  | [], s, _ => by
    show s = ⟨s.ns, s.ws ++ []⟩
    rw [List.append_nil]
  | c :: cs, s, h => by
    rw [List.length_cons] at h
    show (s.step B c).steps B cs = _
    have e : s.step B c = ⟨s.ns, s.ws ++ [c]⟩ := by
      unfold LS.step
      rw [if_neg (by rw [List.length_append, List.length_singleton]; omega)]
    rw [e, LS.wait cs _ (by show (s.ws ++ [c]).length + _ < _; rw [List.length_append, List.length_singleton]; omega)]
    show LS.mk s.ns (s.ws ++ [c] ++ cs) = _
    rw [List.append_assoc]
    rfl
theorem LS.full {B : Bk} {cs : List Nat} {s : LS} (hne : cs ≠ []) (h : s.ws.length + cs.length = B.size) : s.steps B cs = ⟨learntF B.cap s.ns (countsOf B.ss (s.ws ++ cs)), []⟩ := by
  obtain ⟨ds, c, rfl⟩ : ∃ ds c, cs = ds ++ [c] := ⟨cs.dropLast, cs.getLast hne, (List.dropLast_concat_getLast hne).symm⟩
  rw [List.length_append, List.length_singleton] at h
  rw [LS.steps_snoc, LS.wait ds s (by omega)]
  unfold LS.step
  rw [if_pos (by show (s.ws ++ ds ++ [c]).length = B.size; rw [List.length_append, List.length_append, List.length_singleton]; omega)]
  show LS.mk (learntF B.cap s.ns (countsOf B.ss (s.ws ++ ds ++ [c]))) [] = _
  rw [List.append_assoc]
theorem packL_block {B : Bk} : ∀ (cs : List Nat) (s : LS), s.ws.length + cs.length ≤ B.size → packL B s cs = cs.map (code1 B s)
  | [], _, _ => rfl
  | c :: cs, s, h => by
    rw [List.length_cons] at h
    show code1 B s c :: packL B (s.step B c) cs = code1 B s c :: cs.map (code1 B s)
    by_cases hc : cs = []
    · subst hc
      rfl
    · have hl : 0 < cs.length := List.length_pos_iff.mpr hc
      have e : s.step B c = ⟨s.ns, s.ws ++ [c]⟩ := by
        unfold LS.step
        rw [if_neg (by rw [List.length_append, List.length_singleton]; omega)]
      rw [e, packL_block cs _ (by show (s.ws ++ [c]).length + _ ≤ _; rw [List.length_append, List.length_singleton]; omega)]
      rfl
theorem take_block (ts : List Nat) (i z : Nat) : ts.take ((i + 1) * z) = ts.take (i * z) ++ (ts.drop (i * z)).take z := by
  rw [Nat.add_mul, Nat.one_mul, List.take_add]
theorem waits_at {B : Bk} (hB : BookOk B) (ts : List Nat) : ∀ i : Nat, i * B.size ≤ ts.length → ((LS.start B).steps B (ts.take (i * B.size))).ws = []
  | 0, _ => by
    rw [Nat.zero_mul]
    rfl
  | i + 1, h => by
    rw [Nat.add_mul, Nat.one_mul] at h
    have ih := waits_at hB ts i (by omega)
    have hz := hB.2.1
    have hl : ((ts.drop (i * B.size)).take B.size).length = B.size := by
      rw [List.length_take, List.length_drop]
      omega
    rw [take_block, LS.steps_app, LS.full (by intro z; rw [z] at hl; simp at hl; omega) (by rw [ih, hl]; simp)]
/-- the shares behind a full block -/
theorem shares_next {B : Bk} (hB : BookOk B) {ts : List Nat} {i : Nat} (h : (i + 1) * B.size ≤ ts.length) :
    ((LS.start B).steps B (ts.take ((i + 1) * B.size))).ns = learntF B.cap ((LS.start B).steps B (ts.take (i * B.size))).ns (countsOf B.ss ((ts.drop (i * B.size)).take B.size)) := by
  have h' := h
  rw [Nat.add_mul, Nat.one_mul] at h'
  have hw := waits_at hB ts i (by omega)
  have hz := hB.2.1
  have hl : ((ts.drop (i * B.size)).take B.size).length = B.size := by
    rw [List.length_take, List.length_drop]
    omega
  rw [take_block, LS.steps_app, LS.full (by intro z; rw [z] at hl; simp at hl; omega) (by rw [hw, hl]; simp), hw]
  rfl
theorem turns_lt {n c i : Nat} (hc : 1 ≤ c) : i < turns n c ↔ i * c < n := by
  unfold turns
  by_cases hn : 0 < n
  · rw [if_pos hn, Nat.lt_succ_iff, Nat.le_div_iff_mul_le (by omega)]
    omega
  · rw [if_neg hn]
    omega
theorem turns_end {n c : Nat} (hc : 1 ≤ c) : n ≤ turns n c * c := by
  have := (turns_lt (n := n) (i := turns n c) hc)
  omega
theorem turns_le {n c : Nat} : turns n c ≤ n := by
  unfold turns
  split
  · have := Nat.div_le_self (n - 1) c
    omega
  · omega
section
variable {K : PySem.W.Frag} {σ : L2.St} {H H' : Hp} {ta tb tc te : TE} {x y z v : V} {D : Ends} {tz tu : TS}
theorem ev_cal3L {sp : Sp} {E : XK} {ys : List V} (ha : Ev ta σ H x) (hb : EvL tb σ H ys) (hc : Ev tc σ H z) (hs : ∀ r H1, Ex H H1 → H1 r = some (.lst ys) → SpV sp [x, .ref r, z] H1 v) : Ev (tCall sp [] E (tCons ta (tCons tb (tCons tc tNil)))) σ H v := fun H1 e Q q =>
  ha H1 e _ fun H2 e2 => hb H2 (e.trans e2) _ fun r H3 _ e3 h3 => hc H3 ((e.trans e2).trans e3) _ fun H4 e4 => hs r H4 (((e.trans e2).trans e3).trans e4) (e4 _ _ h3) H4 (Ex.refl H4) Q (fun H5 e5 => q H5 (((e2.trans e3).trans e4).trans e5)) E
def rMin2 : List V → Hp → VK → Prop := fun xs H Q => ∃ i j, xs = [.int i, .int j] ∧ Q (.int (if j < i then j else i)) H
theorem ev_min2 {i j : Int} (ha : Ev ta σ H (.int i)) (hb : Ev tb σ H (.int j)) : Ev (tCB rMin2 (tCons ta (tCons tb tNil))) σ H (.int (if j < i then j else i)) := fun H1 e Q q =>
  ha H1 e _ fun H2 e2 => hb H2 (e.trans e2) _ fun H3 e3 => ⟨i, j, rfl, q H3 (e2.trans e3)⟩
theorem ev_lenU {p : Addr} {xs : List V} (ha : Ev ta σ H (.ref p)) (h : SqT K H p xs) : Ev (tCB (rLenS K) (tCons ta tNil)) σ H (.int (xs.length : Int)) := ev_lenT ha h
/-- the first n of a list, in another list -/
theorem el_firstS {tl : TE} {l : List Nat} {n : Nat} (h : Ev te σ H (.str (tx l))) (hn : Ev tl σ H (.int (n : Int))) (hz : l.length ≤ 100000) : Ev (tSl rSlS te tNoPart (tPart tl)) σ H (.str (tx (l.take n))) := ev_toS h hn hz
end
end SP

set_option maxHeartbeats 4000000
namespace SP
open PySem L2 Evl
/-! defs that may raise -/
/-- an own class of refusal, over ValueError, without __init__ -/
structure Err (K : PySem.W.Frag) (mg : Str → Option Value) (c : Str) : Prop where
  mc : mg c = some (.ref (cadr mg c))
  xi : PySem.W.excIn K (cadr mg c) [.type "ValueError", .type "Exception", .type "BaseException", .type "object"] "ValueError.__new__" = true
  kp : PySem.W.keepIn K (.ref (cadr mg c)) = true
  sb : PySem.W.subIn K (.ref (cadr mg c)) (.type "BaseException") = some true
  ty : PySem.W.typeIn K (.ref (cadr mg c)) = some (.type "type")
structure CalX (P : Program) (w : World) (K : PySem.W.Frag) (mg : Str → Option Value) (base : Heap) (x : Str) (ps : List Str) (k : Nat) (sp : Sp) : Prop where
  ex : ∃ f fd, FnOk P w K mg base (L2.CX P w) k f fd ps sp ∧ mg x = some (.ref f) ∧ PySem.W.keepIn K (.ref f) = true ∧ Binds K fd ps []
structure MetX (P : Program) (w : World) (K : PySem.W.Frag) (mg : Str → Option Value) (base : Heap) (c m : Str) (ps : List Str) (k : Nat) (sp : Sp) : Prop where
  ex : ∃ f fd, Cls K (cadr mg c) ∧ Meth K (cadr mg c) m f ∧ FnOk P w K mg base (L2.CX P w) k f fd ps sp ∧ Binds K fd ps []
structure MkrX (P : Program) (w : World) (K : PySem.W.Frag) (mg : Str → Option Value) (base : Heap) (c : Str) (ps : List Str) (k : Nat) (sp : Sp) : Prop where
  ex : ∃ f fd, Mk K (cadr mg c) f ∧ FnOk P w K mg base (L2.CX P w) k f fd ps sp ∧ mg c = some (.ref (cadr mg c)) ∧ Binds K fd ps []
section
variable {X : Cx} {x c m : Str} {ps : List Str} {k k' : Nat} {sp : Sp} {p pos apos p2 pos2 : Pos} {e o : Expr} {es : List Expr} {t : TA} {ta : TE} {E : XK} {j : Nat}
theorem ps_err {W : WX} (D : Err X.K X.mg c) (hc : X.calm = true) (tk : Takes X W) (hg : Gl X c) (hdb : (c == ("__debug__" : Str)) = false := by decide) :
    PS X (.Raise (some (.Call (.Name c p) [.Constant (.str m) j p2] [] pos)) none pos2) (fun _ σ H => W (.ref (cadr X.mg c)) none σ H) :=
  ps_raise hc tk (pmk_own PySem.F.excBase_ValueError D.xi D.mc D.kp (raises_own D.sb D.ty) hg hdb)
theorem pe_calX (C : CalX X.prog X.w X.K X.mg X.base x ps k sp) (hx : Passes (L2.CX X.prog X.w) X E) (hr : Room k' X.A) (hk : k ≤ k') (hg : Gl X x) (ha : PA X (e :: es) t)
    (hdb : (x == ("__debug__" : Str)) = false := by decide) (he : starEach (e :: es) X.env = (false, eval e X.env) :: starEach es X.env := by rfl) (hpl : (backTo pos (starEach es X.env)).any (·.1) = false := by rfl) :
    PE X (.Call (.Name x p) (e :: es) [] pos) (tCall sp [] E t) := by
  obtain ⟨f, fd, G, m, kp, b⟩ := C.ex
  exact pe_call G (hr.mono hk) hg m kp b .nil hx ha hdb he hpl
theorem pe_calS {ES : St → XK} (C : CalX X.prog X.w X.K X.mg X.base x ps k sp) (hx : ∀ σ, PassesAt (L2.CX X.prog X.w) X σ (ES σ)) (hr : Room k' X.A) (hk : k ≤ k') (hg : Gl X x) (ha : PA X (e :: es) t)
    (hdb : (x == ("__debug__" : Str)) = false := by decide) (he : starEach (e :: es) X.env = (false, eval e X.env) :: starEach es X.env := by rfl) (hpl : (backTo pos (starEach es X.env)).any (·.1) = false := by rfl) :
    PE X (.Call (.Name x p) (e :: es) [] pos) (tCallS sp ES t) := by
  obtain ⟨f, fd, G, m, kp, b⟩ := C.ex
  exact pe_callS G (hr.mono hk) hg m kp b hx ha hdb he hpl
theorem pe_metX {pl : Sem Bool} (C : MetX X.prog X.w X.K X.mg X.base c m ps k sp) (hx : Passes (L2.CX X.prog X.w) X E) (hr : Room k' X.A) (hk : k ≤ k') (he : PE X o ta) (ha : PA X (e :: es) t)
    (hst : starEach (e :: es) X.env = (false, eval e X.env) :: starEach es X.env := by rfl) (hpl : (backTo pos (starEach es X.env)).any (·.1) = false := by rfl)
    (ht : eval (.Call (.Attribute o m apos) (e :: es) [] pos) X.env = (do
      let ov ← eval o X.env
      standAt apos.atName
      let (f, first) ← holding [ov] (getMethod ov m pl)
      callWith pos f first (backTo pos (starEach (e :: es) X.env)) (backToKw pos (keywordEach [] X.env))) := by rfl) :
    PE X (.Call (.Attribute o m apos) (e :: es) [] pos) (tMeth (cadr X.mg c) m sp [] E ta t) := by
  obtain ⟨f, fd, hc, hm, F, b⟩ := C.ex
  exact pe_meth (pl := pl) he hc hm F (hr.mono hk) b .nil hx ha hst hpl ht
theorem pe_mkrX (C : MkrX X.prog X.w X.K X.mg X.base x ps k sp) (hx : Passes (L2.CX X.prog X.w) X E) (hr : Room k' X.A) (hk : k + 1 ≤ k') (hg : Gl X x) (ha : PA X (e :: es) t)
    (hdb : (x == ("__debug__" : Str)) = false := by decide) (he : starEach (e :: es) X.env = (false, eval e X.env) :: starEach es X.env := by rfl) (hpl : (backTo pos (starEach es X.env)).any (·.1) = false := by rfl) :
    PE X (.Call (.Name x p) (e :: es) [] pos) (tMake (cadr X.mg x) sp [] E t) := by
  obtain ⟨f, fd, M, F, hm, b⟩ := C.ex
  exact pe_make M F (hr.mono hk) hg hm b .nil hx ha hdb he hpl
/-- what a callee lets out leaves this def as well -/
theorem pass_on (hs : X.stack = X.env :: X.outer) (hf : X.env.frame = some X.env.locals) (hex : X.ex = []) {E₁ : Value → Shared → Prop}
    (hx : X.xe = fun e s' => wpAny (model X.prog X.w) X.A (leaving X.env e) (fun _ s'' => L2.CX X.prog X.w X.outer X.H_0 X.s_0 E e s'') E₁ s') : Passes (L2.CX X.prog X.w) X E :=
  passes_call (takes_of hs hf hex hx) fun _ _ _ _ h => h
end
/-! attributes as targets -/
section
variable {X : Cx} {o : Expr} {f : Str} {ta : TE} {pos : Pos}
def gFld (K : PySem.W.Frag) (ta : TE) (f : Str) : TG := fun v σ H Q => ta σ H fun x H2 => ∃ a C dx fs, x = .ref a ∧ H2 a = some (.ins C dx fs) ∧ Cls K C ∧ NoAttr K C f ∧ fs.length < 1000 ∧ Q σ (upd H2 a (.ins C dx (putF f v fs)))
theorem pg_fld (ho : PE X o ta) : PG X (.Attribute o f pos) (gFld X.K ta f) := by
  refine ⟨fun pins s σ H v u Q I r h => ?_⟩
  rw [PySem.assign_Attribute]
  refine wpAny_bind (wpAny_holding (thn (ho.run pins s σ H _ I h) fun ov s1 ⟨x, H1, I1, r1, a, C, dx, fs, ex, ea, c, n, l, q⟩ => ?_))
  subst ex
  obtain rfl : ov = Value.ref a := r1
  refine wpAny_bind (wpAny_standAt (wpAny_bind (wpAny_holding (setattr_ok I1 ea c n l r fun s2 I2 => ?_))))
  exact wpAny_release ⟨σ, _, I2, q⟩
end
section
variable {K : PySem.W.Frag} {σ : L2.St} {H H' : Hp} {ta : TE} {p C dx : Addr} {fs : List (Str × V)} {f : Str} {v : V}
theorem g_fld {Q : L2.St → Hp → Prop} (ho : Ev ta σ H (.ref p)) (hp : H p = some (.ins C dx fs)) (c : Cls K C) (n : NoAttr K C f) (hl : fs.length < 1000) (k : ∀ H1, Ex H H1 → Q σ (upd H1 p (.ins C dx (putF f v fs)))) : gFld K ta f v σ H Q :=
  ho H (Ex.refl H) _ fun H1 e1 => ⟨p, C, dx, fs, rfl, e1 _ _ hp, c, n, hl, k H1 e1⟩
theorem q_asgU {te : TE} {g : TG} {tz : TS} {D : Ends} {xs : List V} (h : EvU te σ H xs) (k : ∀ q H1, H q = none → Ex H H1 → H1 q = some (.tup xs) → g (.ref q) σ H1 (tz D)) : tSeq (tAsg te g) tz D σ H := h H (Ex.refl H) _ k
end
/-- an answer or a refusal -/
inductive Out where
  | ok (v : V)
  | bad (c : Str)
/-- whatever comes beside, the def ends so -/
def RetX (mg : Str → Option Value) (o : Out) (H : Hp) (Q : VK) (E : XK) : Prop := ∀ H', Ex H H' → match o with
  | .ok v => Q v H'
  | .bad c => E (.ref (cadr mg c)) none H'
theorem RetX.ok {mg : Str → Option Value} {v : V} {H : Hp} {Q : VK} {E : XK} (h : RetX mg (.ok v) H Q E) {H' : Hp} (e : Ex H H') : Q v H' := h H' e
theorem RetX.bad {mg : Str → Option Value} {c : Str} {H : Hp} {Q : VK} {E : XK} (h : RetX mg (.bad c) H Q E) {H' : Hp} (e : Ex H H') : E (.ref (cadr mg c)) none H' := h H' e
end SP

set_option maxHeartbeats 4000000
namespace SP
open PySem L2 Evl
/-! unpacking: from what is learnt, the signs left, the way, the bits ahead; the signs known, and where that ends -/
inductive Fol (B : Bk) : LS → Nat → List Nat → List Nat → List Nat → LS → Nat → List Nat → List Nat → Prop
  | done {s : LS} {w r : List Nat} : Fol B s 0 w r [] s 0 w r
  | arrive {s : LS} {n : Nat} {w r : List Nat} {c : Nat} {kn : List Nat} {s' : LS} {n' : Nat} {w' r' : List Nat} : c ∈ B.ss → code1 B s c = w → Fol B (s.step B c) n [] r kn s' n' w' r' → Fol B s (n + 1) w r (c :: kn) s' n' w' r'
  | bit {s : LS} {n : Nat} {w r : List Nat} {b : Nat} {kn : List Nat} {s' : LS} {n' : Nat} {w' r' : List Nat} : w ∉ HF.codes s.ns → Fol B s (n + 1) (w ++ [b]) r kn s' n' w' r' → Fol B s (n + 1) w (b :: r) kn s' n' w' r'
  | stuck {s : LS} {n : Nat} {w : List Nat} : w ∉ HF.codes s.ns → Fol B s (n + 1) w [] [] s (n + 1) w []
theorem code_ne {B : Bk} {s : LS} {c : Nat} (hs : s.Ok B) (hc : c ∈ B.ss) {w v : List Nat} {b : Nat} (h : code1 B s c = w ++ b :: v) : w ∉ HF.codes s.ns := fun hw => by
  obtain ⟨j, hj⟩ := List.mem_iff_getElem?.mp hw
  have hk := code1_get hs hc
  rw [h] at hk
  have e := HF.code_apart hs.sh.1 hj hk
  rw [e, hk] at hj
  have := congrArg List.length (Option.some.inj hj)
  simp at this
theorem code_idx {B : Bk} {s : LS} {c : Nat} (hs : s.Ok B) (hc : c ∈ B.ss) {j : Nat} (h : (HF.codes s.ns)[j]? = some (code1 B s c)) : j = B.ss.idxOf c := by
  have hk := code1_get hs hc
  exact HF.code_apart (v := []) hs.sh.1 h (by rw [List.append_nil]; exact hk)
theorem code_inj {B : Bk} {s : LS} {c d : Nat} (hs : s.Ok B) (hc : c ∈ B.ss) (hd : d ∈ B.ss) (h : code1 B s c = code1 B s d) : c = d := by
  have hk := code1_get hs hc
  rw [h] at hk
  have e := code_idx hs hd hk
  have h1 := idx_at hc
  rw [e, idx_at hd] at h1
  exact (Option.some.inj h1).symm
theorem code_mem {B : Bk} {s : LS} {c : Nat} (hs : s.Ok B) (hc : c ∈ B.ss) : code1 B s c ∈ HF.codes s.ns := List.mem_of_getElem? (code1_get hs hc)
theorem Fol.code {B : Bk} {s : LS} {c : Nat} (hs : s.Ok B) (hc : c ∈ B.ss) {n : Nat} {rest kn : List Nat} {s' : LS} {n' : Nat} {w' r' : List Nat} (h : Fol B (s.step B c) n [] rest kn s' n' w' r') :
    ∀ (v w : List Nat), code1 B s c = w ++ v → Fol B s (n + 1) w (v ++ rest) (c :: kn) s' n' w' r'
  | [], w, e => by
    rw [List.append_nil] at e
    exact .arrive hc e h
  | b :: v, w, e => .bit (code_ne hs hc e) (Fol.code hs hc h v (w ++ [b]) (by rw [e, List.append_assoc]; rfl))
theorem Fol.text {B : Bk} (hB : BookOk B) {n : Nat} {rest kn : List Nat} {s' : LS} {n' : Nat} {w' r' : List Nat} : ∀ (ts : List Nat) (s : LS), s.Ok B → (∀ c ∈ ts, c ∈ B.ss) → Fol B (s.steps B ts) n [] rest kn s' n' w' r' → Fol B s (n + ts.length) [] (packF B s ts ++ rest) (ts ++ kn) s' n' w' r'
  | [], _, _, _, h => h
  | c :: ts, s, hs, hm, h => by
    have hc := hm c List.mem_cons_self
    rw [packF_cons, List.append_assoc]
    exact Fol.code hs hc (Fol.text hB ts (s.step B c) (LS.step_ok hB hs) (fun d hd => hm d (List.mem_cons_of_mem _ hd)) h) (code1 B s c) [] rfl
theorem Fol.whole {B : Bk} (hB : BookOk B) {s : LS} (hs : s.Ok B) {ts : List Nat} (hm : ∀ c ∈ ts, c ∈ B.ss) (v : List Nat) : Fol B s ts.length [] (packF B s ts ++ v) ts (s.steps B ts) 0 [] v := by
  have := Fol.text hB (n := 0) (rest := v) (kn := []) ts s hs hm .done
  rwa [List.append_nil, Nat.zero_add] at this
theorem Fol.fun {B : Bk} (hB : BookOk B) {s : LS} {n : Nat} {w r kn : List Nat} {s' : LS} {n' : Nat} {w' r' : List Nat} (h : Fol B s n w r kn s' n' w' r') : ∀ {kn2 : List Nat} {s2 : LS} {n2 : Nat} {w2 r2 : List Nat}, s.Ok B → Fol B s n w r kn2 s2 n2 w2 r2 → kn = kn2 ∧ s' = s2 ∧ n' = n2 ∧ w' = w2 ∧ r' = r2 := by
  induction h with
  | done =>
    intro kn2 s2 n2 w2 r2 hs g
    cases g
    exact ⟨rfl, rfl, rfl, rfl, rfl⟩
  | arrive hc e _ ih =>
    intro kn2 s2 n2 w2 r2 hs g
    cases g with
    | arrive hc' e' g =>
      have := code_inj hs hc hc' (e.trans e'.symm)
      subst this
      obtain ⟨h1, h2⟩ := ih (LS.step_ok hB hs) g
      exact ⟨by rw [h1], h2⟩
    | bit hw _ => exact absurd (e ▸ code_mem hs hc) hw
    | stuck hw => exact absurd (e ▸ code_mem hs hc) hw
  | bit hw _ ih =>
    intro kn2 s2 n2 w2 r2 hs g
    cases g with
    | arrive hc' e' g => exact absurd (e' ▸ code_mem hs hc') hw
    | bit _ g => exact ih hs g
  | stuck hw =>
    intro kn2 s2 n2 w2 r2 hs g
    cases g with
    | arrive hc' e' g => exact absurd (e' ▸ code_mem hs hc') hw
    | stuck _ => exact ⟨rfl, rfl, rfl, rfl, rfl⟩
theorem Fol.ok {B : Bk} (hB : BookOk B) {s : LS} {n : Nat} {w r kn : List Nat} {s' : LS} {n' : Nat} {w' r' : List Nat} (h : Fol B s n w r kn s' n' w' r') : s.Ok B → s' = s.steps B kn ∧ s'.Ok B ∧ kn.length + n' = n ∧ (∀ c ∈ kn, c ∈ B.ss) ∧ r'.length ≤ r.length ∧ w'.length ≤ w.length + r.length ∧ (∃ u, u ++ r' = r) := by
  induction h with
  | done => exact fun hs => ⟨rfl, hs, by simp, by simp, Nat.le_refl _, by omega, [], rfl⟩
  | arrive hc e _ ih =>
    intro hs
    obtain ⟨h1, h2, h3, h4, h5, h6, h7⟩ := ih (LS.step_ok hB hs)
    refine ⟨h1, h2, by rw [List.length_cons]; omega, fun d hd => ?_, h5, by simp at h6; omega, h7⟩
    rcases List.mem_cons.mp hd with z | hd
    · rw [z]; exact hc
    · exact h4 d hd
  | bit hw _ ih =>
    intro hs
    obtain ⟨h1, h2, h3, h4, h5, h6, u, h7⟩ := ih hs
    refine ⟨h1, h2, h3, h4, by rw [List.length_cons]; omega, by rw [List.length_append] at h6; simp at h6 ⊢; omega, _ :: u, by rw [List.cons_append, h7]⟩
  | stuck hw => exact fun hs => ⟨rfl, hs, by simp, by simp, Nat.le_refl _, by simp, [], rfl⟩
/-- texts of one length whose bits begin one another are the same -/
theorem pack_apart {B : Bk} (hB : BookOk B) {s : LS} (hs : s.Ok B) {ts us : List Nat} (h1 : ∀ c ∈ ts, c ∈ B.ss) (h2 : ∀ c ∈ us, c ∈ B.ss) (hl : ts.length = us.length) {v : List Nat} (h : packF B s ts = packF B s us ++ v) : ts = us := by
  have a := Fol.whole hB hs h1 []
  have b := Fol.whole hB hs h2 v
  rw [List.append_nil, h, hl] at a
  exact (Fol.fun hB a hs b).1
theorem eqV_tx {a b : List Nat} : eqV (.str (tx a)) (.str (tx b)) = decide (a = b) := by
  show (tx a == tx b) = decide (a = b)
  by_cases e : a = b
  · rw [decide_eq_true e, e]
    simp
  · rw [decide_eq_false e]
    exact beq_eq_false_iff_ne.mpr fun z => e (tx_inj z)
theorem inV_wv {D : HF.Wd} {w : List Nat} : inV (.str (tx w)) (wv D) = decide (w ∈ D) := by
  unfold inV wv
  rw [List.any_map, Bool.eq_iff_iff, List.any_eq_true, decide_eq_true_eq]
  constructor
  · rintro ⟨x, hx, he⟩
    have h1 : tx x = tx w := eq_of_beq (show (tx x == tx w) = true from he)
    rw [← tx_inj h1]
    exact hx
  · intro h
    exact ⟨w, h, show (tx w == tx w) = true by simp⟩
theorem wv_flat (D : HF.Wd) : (wv D).all flatV = true := by
  unfold wv
  rw [List.all_map, List.all_eq_true]
  intro x _
  rfl
section
variable {K : PySem.W.Frag} {σ : L2.St} {H H' : Hp} {ta tb tc te : TE} {x y z v : V} {D : Ends} {tz tu : TS}
theorem rv_inW {p : Addr} {W : HF.Wd} {w : List Nat} (h : SqL K H p (wv W)) : RV (rIn K false) (.str (tx w)) (.ref p) H (.bl (decide (w ∈ W))) := by
  have := rv_isL (K := K) (x := .str (tx w)) h rfl (wv_flat W)
  rw [inV_wv] at this
  exact this
/-- words.index(way) -/
theorem ev_idxW {p : Addr} {W : HF.Wd} {w : List Nat} {j : Nat} {tr : TA} (ho : Ev te σ H (.ref p)) (ha : EvA tr σ H [.str (tx w)]) (h : SqL K H p (wv W)) (hj : W[j]? = some w) (hno : ∀ m z, m < j → W[m]? = some z → z ≠ w) :
    Ev (tBM K "list" (rIndex K) te tr) σ H (.int ((j : Nat) : Int)) := fun H1 e Q q =>
  ho H1 e _ fun H2 e2 => ⟨Or.inl ⟨rfl, _, ex_l (e.trans e2) h⟩, ha H2 (e.trans e2) _ fun H3 e3 => ⟨p, wv W, .str (tx w), j, .str (tx w), rfl, rfl, ex_l ((e.trans e2).trans e3) h, rfl, wv_flat W, by unfold wv; rw [List.getElem?_map, hj]; rfl, by rw [eqV_tx]; exact decide_eq_true rfl, fun m z' hm hz => by
    unfold wv at hz
    rw [List.getElem?_map] at hz
    cases hw : W[m]? with
    | none => rw [hw] at hz; cases hz
    | some z =>
      rw [hw] at hz
      cases hz
      rw [eqV_tx]
      exact decide_eq_false (hno m z hm hw), q H3 (e2.trans e3)⟩⟩
/-- a, b, c = x, y, z -/
theorem q_par3 {i j l : Nat} {tr : TA} (h : EvA tr σ H [x, y, z]) (k : ∀ H1, Ex H H1 → tz D (((σ.set i (some x)).set j (some y)).set l (some z)) H1) : tSeq (tPar3 i j l tr) tz D σ H :=
  h H (Ex.refl H) _ fun H1 e1 => ⟨x, y, z, rfl, k H1 e1⟩
theorem ev_ixS1 {l : List Nat} {i c : Nat} (h : Ev ta σ H (.str (tx l))) (hi : Ev tb σ H (.int ((i : Nat) : Int))) (hc : l[i]? = some c) (hz : l.length ≤ 100000) : Ev (tOp rIxS ta tb) σ H (.str (tx [c])) :=
  ev_op h hi (rv_ixS (by rw [tx_len]; omega) (by
    rw [tx_cps]
    have := (List.getElem?_eq_some_iff.mp hc).1
    unfold atI
    have e : ixN l.length (i : Int) = some i := ixN_nat this
    rw [e]
    exact hc))
end
end SP

set_option maxHeartbeats 4000000
namespace SP
open PySem L2 Evl
/-! part by part: the mathematics -/
theorem Fol.short {B : Bk} {s : LS} {c : Nat} (hs : s.Ok B) (hc : c ∈ B.ss) {n : Nat} : ∀ (part way v2 : List Nat), code1 B s c = way ++ part ++ v2 → v2 ≠ [] → Fol B s (n + 1) way part [] s (n + 1) (way ++ part) []
  | [], way, v2, e, h => by
    rw [List.append_nil] at e ⊢
    obtain ⟨b, v, rfl⟩ := List.exists_cons_of_ne_nil h
    exact .stuck (code_ne hs hc e)
  | b :: part, way, v2, e, h => by
    have e2 : code1 B s c = way ++ b :: (part ++ v2) := by rw [e, List.append_assoc]; rfl
    have ih := Fol.short hs hc (n := n) part (way ++ [b]) v2 (by rw [e2]; simp) h
    rw [show way ++ b :: part = way ++ [b] ++ part by simp]
    exact .bit (code_ne hs hc e2) ih
/-- the way is a beginning of the next code -/
def WayOk (B : Bk) (s : LS) (ts way : List Nat) : Prop := match ts with
  | [] => way = []
  | c :: _ => ∃ v, code1 B s c = way ++ v
/-- no more signs are known -/
def Maxi (B : Bk) (s : LS) (ts way : List Nat) : Prop := match ts with
  | [] => True
  | c :: _ => way.length < (code1 B s c).length
theorem Fol.part {B : Bk} (hB : BookOk B) : ∀ (ts : List Nat) (s : LS) (way part more : List Nat), s.Ok B → (∀ c ∈ ts, c ∈ B.ss) → WayOk B s ts way → way ++ part ++ more = packF B s ts →
    ∃ k w, k ≤ ts.length ∧ Fol B s ts.length way part (ts.take k) (s.steps B (ts.take k)) (ts.length - k) w [] ∧ packF B s (ts.take k) ++ w = way ++ part ∧ WayOk B (s.steps B (ts.take k)) (ts.drop k) w ∧ Maxi B (s.steps B (ts.take k)) (ts.drop k) w
  | [], s, way, part, more, hs, hm, hw, e => by
    have hw : way = [] := hw
    subst hw
    have : part = [] ∧ more = [] := by
      have e : part ++ more = [] := e
      exact List.append_eq_nil_iff.mp e
    obtain ⟨rfl, rfl⟩ := this
    exact ⟨0, [], Nat.le_refl _, .done, rfl, rfl, trivial⟩
  | c :: cs, s, way, part, more, hs, hm, hw, e => by
    obtain ⟨v, hv⟩ := hw
    have hc := hm c List.mem_cons_self
    rw [packF_cons, hv, List.append_assoc, List.append_assoc] at e
    have e := List.append_cancel_left e
    by_cases hl : v.length ≤ part.length
    · obtain ⟨p2, rfl⟩ : ∃ p2, part = v ++ p2 := by
        have h1 := congrArg (List.take v.length) e
        rw [List.take_append_of_le_length hl, List.take_left] at h1
        exact ⟨part.drop v.length, by rw [← List.take_append_drop v.length part, h1]; simp⟩
      rw [List.append_assoc] at e
      have e := List.append_cancel_left e
      obtain ⟨k, w, hk, hF, he, hw2, hmx⟩ := Fol.part hB cs (s.step B c) [] p2 more (LS.step_ok hB hs) (fun d hd => hm d (List.mem_cons_of_mem _ hd)) (by
        cases cs with
        | nil => rfl
        | cons d r => exact ⟨_, rfl⟩) e
      refine ⟨k + 1, w, by rw [List.length_cons]; omega, ?_, ?_, hw2, hmx⟩
      · have := Fol.code hs hc hF v way hv
        rw [List.take_succ_cons, List.length_cons, Nat.add_sub_add_right]
        exact this
      · rw [List.take_succ_cons, packF_cons, hv, List.append_assoc, he, List.append_assoc]
        rfl
    · obtain ⟨v2, rfl⟩ : ∃ v2, v = part ++ v2 := by
        have h1 := congrArg (List.take part.length) e
        rw [List.take_left, List.take_append_of_le_length (by omega)] at h1
        exact ⟨v.drop part.length, by rw [← List.take_append_drop part.length v, ← h1]; simp⟩
      have hne : v2 ≠ [] := fun z => by rw [z] at hl; simp at hl
      refine ⟨0, way ++ part, Nat.zero_le _, Fol.short hs hc part way v2 (by rw [hv, List.append_assoc]) hne, rfl, ⟨v2, by show code1 B s c = way ++ part ++ v2; rw [hv, List.append_assoc]⟩, ?_⟩
      show (way ++ part).length < (code1 B s c).length
      rw [hv, ← List.append_assoc, List.length_append (bs := v2)]
      have := List.length_pos_iff.mpr hne
      omega
/-- from the middle of a text -/
theorem Fol.mid {B : Bk} (hB : BookOk B) {s : LS} (hs : s.Ok B) {ts : List Nat} (hm : ∀ c ∈ ts, c ∈ B.ss) {k z more' : Nat} {way : List Nat} (hk : k ≤ ts.length) (hw : WayOk B (s.steps B (ts.take k)) (ts.drop k) way) (e : packF B s (ts.take k) ++ way = (packF B s ts).take z) :
    ∃ k2 w, k ≤ k2 ∧ k2 ≤ ts.length ∧ Fol B (s.steps B (ts.take k)) (ts.length - k) way (((packF B s ts).drop z).take more') ((ts.drop k).take (k2 - k)) (s.steps B (ts.take k2)) (ts.length - k2) w [] ∧
      packF B s (ts.take k2) ++ w = (packF B s ts).take (z + more') ∧ WayOk B (s.steps B (ts.take k2)) (ts.drop k2) w ∧ Maxi B (s.steps B (ts.take k2)) (ts.drop k2) w := by
  have hO := LS.steps_ok hB (ts.take k) s hs
  have hsp : packF B s ts = packF B s (ts.take k) ++ packF B (s.steps B (ts.take k)) (ts.drop k) := by
    rw [← packF_app, List.take_append_drop]
  have e2 : way ++ ((packF B s ts).drop z).take more' ++ (packF B s ts).drop (z + more') = packF B (s.steps B (ts.take k)) (ts.drop k) := by
    refine List.append_cancel_left (as := packF B s (ts.take k)) ?_
    rw [← hsp, ← List.append_assoc, ← List.append_assoc, e, ← List.take_add, List.take_append_drop]
  obtain ⟨j, w, hj, hF, he, hw2, hmx⟩ := Fol.part hB (ts.drop k) _ way _ _ hO (fun c hc => hm c (List.mem_of_mem_drop hc)) hw e2
  rw [List.length_drop] at hj
  have htk : ts.take (k + j) = ts.take k ++ (ts.drop k).take j := by rw [List.take_add]
  have hst : (s.steps B (ts.take k)).steps B ((ts.drop k).take j) = s.steps B (ts.take (k + j)) := by rw [htk, LS.steps_app]
  have hdr : (ts.drop k).drop j = ts.drop (k + j) := by rw [List.drop_drop]
  rw [hst] at hF hw2 hmx
  rw [hdr] at hw2 hmx
  refine ⟨k + j, w, by omega, by omega, ?_, ?_, hw2, hmx⟩
  · rw [Nat.add_sub_cancel_left]
    rw [List.length_drop] at hF
    rw [show ts.length - (k + j) = ts.length - k - j by omega]
    exact hF
  · rw [htk, packF_app, List.append_assoc, he, ← List.append_assoc, e, List.take_add]
/-! the ends of the signs -/
def endAt (B : Bk) (s : LS) (ts : List Nat) (k : Nat) : Nat := (packF B s (ts.take k)).length
theorem end_mono (B : Bk) (s : LS) (ts : List Nat) {i j : Nat} (h : i ≤ j) : endAt B s ts i ≤ endAt B s ts j := by
  unfold endAt
  obtain ⟨d, rfl⟩ : ∃ d, j = i + d := ⟨j - i, by omega⟩
  rw [List.take_add, packF_app, List.length_append]
  omega
theorem end_next {B : Bk} {s : LS} {ts : List Nat} {k : Nat} {w : List Nat} (hk : k < ts.length) (h : Maxi B (s.steps B (ts.take k)) (ts.drop k) w) : endAt B s ts k + w.length < endAt B s ts (k + 1) := by
  rw [List.drop_eq_getElem_cons hk] at h
  have h : w.length < (code1 B (s.steps B (ts.take k)) ts[k]).length := h
  unfold endAt
  rw [List.take_add_one, List.getElem?_eq_getElem hk, packF_app, List.length_append]
  show _ < _ + (packF B (s.steps B (ts.take k)) [ts[k]]).length
  rw [packF_cons, List.length_append]
  omega
/-- the last one that is not behind -/
def knownF (ends : List Nat) (came : Nat) : Nat → Nat
  | 0 => 0
  | n + 1 => if ends.getD n 0 ≤ came then n else knownF ends came n
theorem known_is {B : Bk} {s : LS} {ts : List Nat} {k : Nat} {w : List Nat} (hk : k ≤ ts.length) (h : Maxi B (s.steps B (ts.take k)) (ts.drop k) w) : ∀ n, k < n → n ≤ ts.length + 1 → knownF ((List.range (ts.length + 1)).map (endAt B s ts)) (endAt B s ts k + w.length) n = k
  | 0, h0, _ => by omega
  | n + 1, h0, h1 => by
    unfold knownF
    have e : ((List.range (ts.length + 1)).map (endAt B s ts)).getD n 0 = endAt B s ts n := by
      rw [List.getD_eq_getElem?_getD, List.getElem?_map, List.getElem?_range (by omega)]
      rfl
    rw [e]
    by_cases hkn : k = n
    · subst hkn
      rw [if_pos (by omega)]
    · have h2 := end_next (by omega) h
      have h3 := end_mono B s ts (show k + 1 ≤ n by omega)
      rw [if_neg (by omega)]
      exact known_is hk h n (by omega) (by omega)
/-! turns -/
def sumF (f : Nat → Nat) (w : Nat) : Nat → Nat
  | 0 => 0
  | t + 1 => sumF f w t + if t % 2 = w then f t else 0
theorem sumF_mono (f : Nat → Nat) (w : Nat) {s t : Nat} (h : s ≤ t) : sumF f w s ≤ sumF f w t := by
  obtain ⟨d, rfl⟩ : ∃ d, t = s + d := ⟨t - s, by omega⟩
  clear h
  induction d with
  | zero => exact Nat.le_refl _
  | succ d ih =>
    show _ ≤ sumF f w (s + d) + _
    omega
theorem sumF_in (f : Nat → Nat) {w s t u : Nat} (h1 : s ≤ u) (h2 : u < t) (hw : u % 2 = w) : sumF f w s + f u ≤ sumF f w t := by
  have a := sumF_mono f w h1
  have b := sumF_mono f w (show u + 1 ≤ t by omega)
  have c : sumF f w (u + 1) = sumF f w u + f u := by
    show sumF f w u + (if u % 2 = w then f u else 0) = _
    rw [if_pos hw]
  omega
theorem sumF_grow {f : Nat → Nat} {w W : Nat} (h : ∀ j, ∃ u, W * j ≤ u ∧ u < W * (j + 1) ∧ u % 2 = w ∧ 1 ≤ f u) : ∀ j, j ≤ sumF f w (W * j)
  | 0 => Nat.zero_le _
  | j + 1 => by
    have ih := sumF_grow h j
    obtain ⟨u, h1, h2, h3, h4⟩ := h j
    have := sumF_in f h1 h2 h3
    omega
def moreF (cs : List Int) (d : Nat) (wide : Int) (t : Nat) : Nat := ((cs.getD (t % cs.length) 0 + ((t / d : Nat) : Int)) % wide).toNat
/-- in each window of 2 p turns someone's turn brings something -/
theorem more_some {cs : List Int} {d p e : Nat} {wide : Int} (hd : 1 ≤ d) (hp2 : p % 2 = 0) (hpc : p % cs.length = 0) (hpd : p = d * e) (hwd : 1 ≤ wide) (he : (e : Int) % wide ≠ 0) (hp : 2 ≤ p) {w : Nat} (hw : w < 2) (j : Nat) :
    ∃ u, (2 * p) * j ≤ u ∧ u < (2 * p) * (j + 1) ∧ u % 2 = w ∧ 1 ≤ moreF cs d wide u := by
  have hu2 : ((2 * p) * j + w) % 2 = w := by
    rw [show (2 * p) * j + w = w + 2 * (p * j) by rw [Nat.mul_assoc]; omega, Nat.add_mul_mod_self_left]
    omega
  have hv2 : ((2 * p) * j + w + p) % 2 = w := by omega
  have hlt : (2 * p) * (j + 1) = (2 * p) * j + 2 * p := by rw [Nat.mul_add, Nat.mul_one]
  by_cases h1 : 1 ≤ moreF cs d wide ((2 * p) * j + w)
  · exact ⟨_, by omega, by omega, hu2, h1⟩
  · refine ⟨(2 * p) * j + w + p, by omega, by omega, hv2, ?_⟩
    have hm : ((2 * p) * j + w + p) % cs.length = ((2 * p) * j + w) % cs.length := by
      rw [Nat.add_mod, hpc, Nat.add_zero, Nat.mod_mod]
    have hdv : ((2 * p) * j + w + p) / d = ((2 * p) * j + w) / d + e := by
      rw [hpd, Nat.add_mul_div_left _ _ (by omega)]
    unfold moreF at h1 ⊢
    rw [hm, hdv]
    generalize cs.getD (((2 * p) * j + w) % cs.length) 0 = c at h1 ⊢
    generalize ((2 * p) * j + w) / d = q at h1 ⊢
    have g0 := Int.emod_nonneg (c + (q : Int)) (show wide ≠ 0 by omega)
    have g1 := Int.emod_nonneg (c + ((q + e : Nat) : Int)) (show wide ≠ 0 by omega)
    have z0 : (c + (q : Int)) % wide = 0 := by omega
    have : (c + ((q + e : Nat) : Int)) % wide = (e : Int) % wide := by
      rw [Int.natCast_add, ← Int.add_assoc, Int.add_emod, z0, Int.zero_add, Int.emod_emod]
    omega
theorem more_ends {cs : List Int} {d p e : Nat} {wide : Int} (hd : 1 ≤ d) (hp2 : p % 2 = 0) (hpc : p % cs.length = 0) (hpd : p = d * e) (hwd : 1 ≤ wide) (he : (e : Int) % wide ≠ 0) (hp : 2 ≤ p) {w : Nat} (hw : w < 2) (t : Nat) : t / (2 * p) ≤ sumF (moreF cs d wide) w t := by
  have h := sumF_grow (more_some (cs := cs) hd hp2 hpc hpd hwd he hp hw) (t / (2 * p))
  have := sumF_mono (moreF cs d wide) w (Nat.mul_div_le t (2 * p))
  omega
theorem drop_min {α : Type} (l : List α) (z m : Nat) : (l.drop (min z l.length)).take m = (l.drop z).take m := by
  by_cases h : z ≤ l.length
  · rw [Nat.min_eq_left h]
  · rw [Nat.min_eq_right (by omega), List.drop_of_length_le (Nat.le_refl _), List.drop_of_length_le (by omega)]
theorem part_len {α : Type} (l : List α) (z m : Nat) : min z l.length + ((l.drop z).take m).length = min (z + m) l.length := by
  rw [List.length_take, List.length_drop]
  omega
/-! two of a kind -/
def two {α : Type} (f : Nat → α) : List α := [f 0, f 1]
theorem two_at {f : Nat → V} {w : Nat} (h : w < 2) : atI (two f) ((w : Nat) : Int) = some (f w) := by
  refine atI_nat ?_
  match w, h with
  | 0, _ => rfl
  | 1, _ => rfl
theorem two_get {α : Type} {f : Nat → α} {i : Nat} {x : α} (h : (two f)[i]? = some x) : i < 2 ∧ x = f i := by
  match i, h with
  | 0, h => exact ⟨by omega, (Option.some.inj h).symm⟩
  | 1, h => exact ⟨by omega, (Option.some.inj h).symm⟩
  | i + 2, h => simp [two] at h
theorem two_set {f : Nat → V} {w : Nat} {v : V} (h : w < 2) : (two f).set w v = two (fun i => if i = w then v else f i) := by
  match w, h with
  | 0, _ => rfl
  | 1, _ => rfl
theorem two_map {α β : Type} (f : Nat → α) (g : α → β) : (two f).map g = two (fun i => g (f i)) := rfl
theorem two_ext {α : Type} {f g : Nat → α} (h : ∀ i, i < 2 → f i = g i) : two f = two g := by
  unfold two
  rw [h 0 (by omega), h 1 (by omega)]
end SP

set_option maxHeartbeats 4000000
namespace SP
open PySem L2 Evl
section
variable {K : PySem.W.Frag} {σ : L2.St} {H H' : Hp} {ta te : TE} {z : V}
/-- a text's method without arguments -/
theorem ev_bm0S {r : V → List V → Hp → VK → Prop} {s : Str} (ho : Ev te σ H (.str s)) (hr : ∀ H1, Ex H H1 → ∀ Q : VK, (∀ H2, Ex H1 H2 → Q z H2) → r (.str s) [] H1 Q) : Ev (tBM0 K "str" r te) σ H z := fun H1 e Q q =>
  ho H1 e _ fun H2 e2 => ⟨rfl, hr H2 (e.trans e2) Q fun H3 e3 => q H3 (e2.trans e3)⟩
theorem q_part {g : TG} {tb : TE} {tz : TS} {D : Ends} {l : List Nat} (ho : Ev te σ H (.str (tx l))) (hs : Ev tb σ H (.str (tx [32]))) (hz : l.length ≤ 100000)
    (k : ∀ p H1, Ex H H1 → H1 p = some (.tup [.str (Txt.partition (tx l) (tx [32])).1, .str (Txt.partition (tx l) (tx [32])).2.1, .str (Txt.partition (tx l) (tx [32])).2.2]) → g (.ref p) σ H1 (tz D)) :
    tSeq (tAsg (tM1 (fun x xs H Q => ∃ a b, x = .str a ∧ xs = [.str b] ∧ (b.length == 0) = false ∧ a.length ≤ sizeLine ∧ ∀ p, H p = none → Q (.ref p) (upd H p (.tup [.str (Txt.partition a b).1, .str (Txt.partition a b).2.1, .str (Txt.partition a b).2.2]))) te tb) g) tz D σ H :=
  ho H (Ex.refl _) _ fun H1 e1 => ⟨⟨_, rfl⟩, hs H1 e1 _ fun H2 e2 => ⟨tx l, tx [32], rfl, rfl, rfl, sz_of (by rw [tx_len]; exact hz), fun p hp => k p _ ((e1.trans e2).trans (Ex.new hp)) upd_same⟩⟩
end
/-! partition at the first blank -/
theorem strSub_tx (l : List Nat) (i j : Nat) : Builtin.Str.strSub (tx l) i j = tx ((l.drop i).take (j - i)) := by
  unfold Builtin.Str.strSub tx
  simp [List.extract]
theorem idx_app {c : Nat} {cs bs : List Nat} (h : c ∉ cs) : (cs ++ c :: bs).idxOf c = cs.length := by
  induction cs with
  | nil => simp
  | cons a r ih =>
    have h1 : a ≠ c := fun z => h (by rw [z]; simp)
    have h2 := ih (fun z => h (List.mem_cons_of_mem _ z))
    have h3 : (a == c) = false := by simpa using h1
    rw [List.cons_append, List.idxOf_cons, h2, h3]
    rfl
theorem part_in {cs bs : List Nat} (h : 32 ∉ cs) : Txt.partition (tx (cs ++ 32 :: bs)) (tx [32]) = (tx cs, tx [32], tx bs) := by
  obtain ⟨r, e⟩ := idx_occ (l := cs ++ 32 :: bs) (c := 32) (by simp)
  rw [idx_app h] at e
  unfold Txt.partition
  rw [e]
  show (Builtin.Str.strSub _ 0 cs.length, _, Builtin.Str.strSub _ (cs.length + (tx [32]).length) (tx (cs ++ 32 :: bs)).length) = _
  rw [strSub_tx, strSub_tx, tx_len, tx_len]
  congr 2
  · simp
  · congr 1
    simp
    exact List.take_of_length_le (by omega)
theorem part_no {l : List Nat} (h : 32 ∉ l) : Txt.partition (tx l) (tx [32]) = (tx l, tx [], tx []) := by
  unfold Txt.partition
  rcases StrLaws.occ_head (tx l) (tx [32]) 1 (Nat.le_refl _) with ⟨h0, hn⟩ | ⟨i, r, e, ha, hn⟩
  · rw [h0]
    rfl
  · have hi : l[i]? = some 32 := by
      have := (StrLaws.subAt_one (tx l) 32 i).mp ha
      rwa [tx_cps] at this
    exact absurd (List.mem_of_getElem? hi) h
/-- the figures of a count -/
def dg (n : Nat) : List Nat := (PySem.Str.ofString (toString (n : Int))).cps.toList
theorem dg_str (n : Nat) : PySem.Str.ofString (toString (n : Int)) = tx (dg n) := by
  unfold dg tx
  rw [Array.toArray_toList]
theorem strBl : PySem.Str.ofString " " = tx [32] := by decide +kernel
theorem lg_of {n : Nat} (h : n ≤ 100000) : ((n : Int)).natAbs.log2 < 1920 := by
  show Nat.log2 n < 1920
  by_cases h0 : n = 0
  · rw [h0]; decide
  · exact Nat.lt_of_lt_of_le ((Nat.log2_lt h0).mpr (Nat.lt_of_le_of_lt h (by decide : 100000 < 2 ^ 17))) (by decide)
/-- a count as a line has it -/
def isCt (cs : List Nat) : Bool := (Txt.isascii (tx cs) && Txt.isdigit (tx cs) && decide (cs.length ≤ 4)) && (decide (cs = [48]) || !Txt.startswith (tx cs) (tx [48]))
theorem start_eq (l : List Nat) : Txt.startswith (tx l) (tx [48]) = (l.head? == some 48) := by
  unfold Txt.startswith Builtin.Str.subAt
  cases l with
  | nil => rfl
  | cons c r =>
    have h : (tx (c :: r)).cps.extract 0 (0 + (tx [48]).length) = #[c] := by
      show (c :: r).toArray.extract 0 1 = #[c]
      simp
    rw [h]
    show ((decide (0 + 1 ≤ (c :: r).length)) && (#[c] == #[48])) = _
    by_cases e : c = 48
    · rw [e]; simp
    · have h1 : (#[c] == #[48]) = false := by
        rw [beq_eq_false_iff_ne]
        intro z
        have := congrArg Array.toList z
        simp at this
        exact e this
      rw [h1]
      simp [e]
theorem isCt_eq (l : List Nat) : isCt l = ((l.all (· < 128) && (decide (0 < l.length) && l.all Unicode.isDigit) && decide (l.length ≤ 4)) && (decide (l = [48]) || !(l.head? == some 48))) := by
  unfold isCt
  rw [start_eq]
  have h1 : Txt.isascii (tx l) = l.all (· < 128) := by
    unfold Txt.isascii tx
    simp
  have h2 : Txt.isdigit (tx l) = (decide (0 < l.length) && l.all Unicode.isDigit) := by
    unfold Txt.isdigit
    rw [tx_len]
    unfold tx
    simp
  rw [h1, h2]
theorem dig_uni : ∀ c : Fin 10, Unicode.isDigit (48 + c) = true := by decide +kernel
theorem dig_uni' {c : Nat} (h : 48 ≤ c ∧ c ≤ 57) : Unicode.isDigit c = true := by
  have := dig_uni ⟨c - 48, by omega⟩
  have e : 48 + (c - 48) = c := by omega
  simp only [e] at this
  exact this
theorem isCt_dig {l : List Nat} (h : ∀ c ∈ l, 48 ≤ c ∧ c ≤ 57) (h0 : l ≠ []) (h4 : l.length ≤ 4) (hs : l = [48] ∨ l.head? ≠ some 48) : isCt l = true := by
  rw [isCt_eq]
  have a1 : l.all (· < 128) = true := List.all_eq_true.mpr fun c hc => decide_eq_true (by have := h c hc; omega)
  have a2 : l.all Unicode.isDigit = true := List.all_eq_true.mpr fun c hc => dig_uni' (h c hc)
  have a3 : 0 < l.length := List.length_pos_iff.mpr h0
  rw [a1, a2, decide_eq_true a3, decide_eq_true h4]
  rcases hs with hs | hs
  · rw [decide_eq_true hs]; rfl
  · have : (l.head? == some 48) = false := by rw [beq_eq_false_iff_ne]; exact hs
    rw [this]; simp
/-- what is no count -/
theorem isCt_nil : isCt [] = false := by rw [isCt_eq]; rfl
theorem isCt_long {l : List Nat} (h : 4 < l.length) : isCt l = false := by
  rw [isCt_eq, decide_eq_false (p := l.length ≤ 4) (by omega)]
  simp
theorem isCt_lead {l : List Nat} (h : l ≠ []) : isCt (48 :: l) = false := by
  rw [isCt_eq]
  have : decide (48 :: l = [48]) = false := decide_eq_false (by simpa using h)
  rw [this]
  simp
theorem isCt_sign {l : List Nat} {c : Nat} (hc : c ∈ l) (h : Unicode.isDigit c = false) : isCt l = false := by
  rw [isCt_eq]
  have : l.all Unicode.isDigit = false := by
    rw [List.all_eq_false]
    exact ⟨c, hc, by rw [h]; simp⟩
  rw [this]
  simp
theorem dg_eq (n : Nat) : dg n = (Nat.toDigits 10 n).map Char.toNat := PySem.W.KIN.signs_num n
theorem dg_dig (n : Nat) : ∀ c ∈ dg n, 48 ≤ c ∧ c ≤ 57 := fun c hc => by
  rw [dg_eq] at hc
  obtain ⟨ch, hch, e⟩ := List.mem_map.mp hc
  have r := Nat.isDigit_of_mem_toDigits (by decide) (by decide) hch
  rw [← e]
  unfold Char.isDigit at r
  simp only [Bool.and_eq_true, decide_eq_true_eq] at r
  exact ⟨r.1, r.2⟩
theorem dg_ne (n : Nat) : dg n ≠ [] := fun h => by
  rw [dg_eq, List.map_eq_nil_iff] at h
  exact Nat.toDigits_ne_nil h
theorem dg_len4 {n : Nat} (h : n < 10000) : (dg n).length ≤ 4 := by
  rw [dg_eq, List.length_map]
  exact (Nat.length_toDigits_le_iff (by decide) (by decide)).mpr h
theorem dig_ch : ∀ n : Fin 10, (Nat.digitChar n).toNat = 48 + n := by decide
theorem dg_small {n : Nat} (h : n < 10) : dg n = [48 + n] := by
  rw [dg_eq, Nat.toDigits_of_lt_base h]
  show [(Nat.digitChar n).toNat] = _
  rw [dig_ch ⟨n, h⟩]
theorem dg_head (n : Nat) : n = 0 ∨ (dg n).head? ≠ some 48 := by
  induction n using Nat.strongRecOn with
  | _ n ih =>
    by_cases h : n < 10
    · by_cases h0 : n = 0
      · exact .inl h0
      · refine .inr ?_
        rw [dg_small h]
        simp
        omega
    · refine .inr ?_
      have t : dg n = dg (n / 10) ++ dg (n % 10) := by
        rw [dg_eq, dg_eq, dg_eq, ← List.map_append, Nat.toDigits_append_toDigits (by decide) (by omega) (Nat.mod_lt _ (by decide)), Nat.div_add_mod]
      rw [t]
      rcases ih (n / 10) (by omega) with h0 | h1
      · omega
      · cases e : dg (n / 10) with
        | nil => exact absurd e (dg_ne _)
        | cons c r => rw [e] at h1; exact h1
theorem dg_zero : dg 0 = [48] := dg_small (by decide)
theorem dg_isCt {n : Nat} (h : n < 10000) : isCt (dg n) = true := isCt_dig (dg_dig n) (dg_ne n) (dg_len4 h) ((dg_head n).imp (fun e => by rw [e]; exact dg_zero) id)
theorem dg_int {n : Nat} (h : n < 10000) : PySem.intText? (tx (dg n)) = some ((n : Nat) : Int) := by
  rw [← dg_str]
  exact PySem.W.KIN.num_reads (by omega) (by omega)
theorem dg_no32 (n : Nat) : 32 ∉ dg n := fun h => by have := dg_dig n 32 h; omega
theorem dg_len (n : Nat) (h : n < 10000) : (dg n).length ≤ 2000 := Nat.le_trans (dg_len4 h) (by decide)
/-! one sign, n times -/
theorem foldl_one (c : Nat) : ∀ (n : Nat) (l : List Nat), List.foldl (fun x1 x2 => x1 ++ x2) l.toArray (List.replicate n #[c]) = (l ++ List.replicate n c).toArray
  | 0, l => by simp
  | n + 1, l => by
    rw [List.replicate_succ, List.foldl_cons, List.replicate_succ]
    have : l.toArray ++ #[c] = (l ++ [c]).toArray := by simp
    rw [this, foldl_one c n, List.append_assoc]
    rfl
theorem mul_one (c n : Nat) : Txt.mul (tx [c]) (n : Int) = tx (List.replicate n c) := by
  unfold Txt.mul
  by_cases h0 : n = 0
  · rw [if_pos (by omega), h0]; rfl
  · rw [if_neg (by omega)]
    by_cases h1 : n = 1
    · subst h1; rfl
    · have : ((n : Int) == 1 || (tx [c]).length == 0) = false := by
        have e1 : ((n : Int) == 1) = false := beq_eq_false_iff_ne.mpr (by omega)
        rw [e1]; rfl
      rw [this, if_neg (by simp)]
      have f := foldl_one c n []
      rw [List.nil_append] at f
      rw [Int.toNat_natCast]
      exact congrArg Str.mk f
/-- one sign, n times -/
theorem op_repS {X : Cx} : OpR X (binaryOp .Mult) (fun x y H Q => ∃ c n : Nat, x = .str (tx [c]) ∧ y = .int (n : Int) ∧ n ≤ 100000 ∧ Q (.str (tx (List.replicate n c))) H) := by
  intro pins s σ H x y v u Q I rx ry h
  obtain ⟨c, n, rfl, rfl, hn, q⟩ := h
  obtain ⟨t, rfl⟩ := rx
  obtain ⟨t', rfl⟩ := ry
  refine SB.mul (PyProof.Rows.mulOk_of 16 1048576 (by rw [tx_len]; exact (by decide : 1 ≤ 16)) (by omega) (by omega) (by decide) (by decide)) fun t' k => ?_
  rw [mul_one]
  exact ⟨.str _, H, I.tok _, ⟨_, rfl⟩, q⟩
theorem ev_repS {σ : L2.St} {H : Hp} {ta tb : TE} {c n : Nat} (h : Ev ta σ H (.str (tx [c]))) (hn : Ev tb σ H (.int (n : Int))) (hz : n ≤ 100000) : Ev (tOp (fun x y H Q => ∃ c n : Nat, x = .str (tx [c]) ∧ y = .int (n : Int) ∧ n ≤ 100000 ∧ Q (.str (tx (List.replicate n c))) H) ta tb) σ H (.str (tx (List.replicate n c))) :=
  ev_op h hn fun H1 _ Q q => ⟨c, n, rfl, rfl, hz, q H1 (Ex.refl _)⟩
end SP

set_option maxHeartbeats 4000000
namespace SP
open PySem PySem.Spec PyProof.Rows L2 Evl
/-! several clauses that bind one name, defs called in a suite about what is held there -/
/-- what the clauses wish of an exception of the body, one after the other; slot i is the name's -/
def wManyAs (K : PySem.W.Frag) (i : Nat) (Wout : WX) (D : Ends) : List (Value × (Addr → Value → Option Addr → TS)) → WX
  | [] => Wout
  | (c, ts) :: r => fun cls d σ H => ∃ b, PySem.W.exmOne K cls c = some b ∧
      (b = true → ∀ a, H a = none → ts a cls d { nx := fun σ' H' => D.nx (σ'.set i none) H', rt := D.rt, bk := fun σ' H' => D.bk (σ'.set i none) H', ct := fun σ' H' => D.ct (σ'.set i none) H' } (σ.set i (some (.ref a))) H) ∧
      (b = false → wManyAs K i Wout D r cls d σ H)
inductive HdsAs (X : Cx) (n : Str) : List ExceptHandler → List (Value × (Addr → Value → Option Addr → TS)) → Prop
  | nil : HdsAs X n [] []
  | cons {x : Str} {c : Value} {ts : Addr → Value → Option Addr → TS} {b₀ : Stmt} {suite : List Stmt} {np pos' : Pos} {hds : List ExceptHandler} {l : List (Value × (Addr → Value → Option Addr → TS))} (hc : Names X x c)
      (hsu : ∀ (a : Addr) (oe : Obj) (cls : Value) (d : Option Addr) (pn : List (Addr × Obj)), Zc cls d oe → (∃ vs, oe.data = .fields vs) → PSs (X.suite a ((a, oe) :: pn)) (b₀ :: suite) (ts a cls d)) (r : HdsAs X n hds l) :
      HdsAs X n (.ExceptHandler (some (.Name x np)) (some n) (b₀ :: suite) pos' :: hds) ((c, ts) :: l)
/-- an exception lies at the try of X: sI is the state ahead of it, B what was kept -/
structure Down (X : Cx) (pins : List (Addr × Obj)) (σ : L2.St) (H : Hp) (a : Addr) (cls : Value) (d : Option Addr) (B : Heap) (sI s : Shared) : Prop where
  ground : Inv X pins σ H sI
  apart : ∀ b o, sI.heap.get? b = some o → b ∉ frs X.stack → B.get? b = some o
  lies : HandSPX.FlyingZ B (X.env :: X.outer) a (Zc cls d) s.heap
  slots : sI.heap.UpToSlots s.heap
  new : H a = none
  out : s.os = sI.os
  bare : AllBare s.gens
section
variable {X : Cx} {pins : List (Addr × Obj)} {σ : L2.St} {H : Hp} {a : Addr} {cls : Value} {d : Option Addr} {B : Heap} {sI s : Shared} {E : Value → Shared → Prop}
theorem Down.inv (z : Down X pins σ H a cls d B sI s) : Inv X pins σ H s := z.ground.landed z.apart z.lies.1 z.slots z.out z.bare
theorem Down.other (z : Down X pins σ H a cls d B sI s) : a ∉ frs (X.env :: X.outer) := fun hm => by
  obtain ⟨oe, vs, h1, _, h2⟩ := z.lies.there
  obtain ⟨_, o, h3, h4⟩ := z.lies.2.2.1.mem hm
  cases h1.symm.trans h3
  exact h4 _ h2
/-- the suite may be entered -/
theorem Down.suite (z : Down X pins σ H a cls d B sI s) (hf : X.env.frame = some X.env.locals) : ∃ oe, Zc cls d oe ∧ (∃ vs, oe.data = .fields vs) ∧ Inv (X.suite a ((a, oe) :: (X.pn ++ pins))) [] σ H s := by
  obtain ⟨oe, vs, h1, h2, h3⟩ := z.lies.there
  refine ⟨oe, h2, ⟨vs, h3⟩, z.inv.suite h1 h3 z.new (fun e => ?_) fun hm => ?_⟩
  · exact z.other (List.mem_filterMap.mpr ⟨_, List.mem_cons_self, hf.trans (congrArg some e.symm)⟩)
  · obtain ⟨v, hv, q⟩ := List.mem_filterMap.mp hm
    exact z.other (List.mem_filterMap.mpr ⟨v, List.mem_cons_of_mem _ hv, q⟩)
/-- its flight is set to none once more -/
theorem Down.again {M : Model} {A : Around} {Q : Unit → Shared → Prop} (z : Down X pins σ H a cls d B sI s) (h : ∀ s', Down X pins σ H a cls d B sI s' → Q () s') : wpAny M A (setFlight (.ref a) none) Q E s :=
  HandSPX.lands_againZ z.lies fun g l u => h _ ⟨z.ground, z.apart, l, z.slots.trans u, z.new, z.out, z.bare⟩
/-- no clause is left: it leaves the try -/
theorem Down.leaves {W : WX} {Q : Flow → Shared → Prop} (z : Down X pins σ H a cls d B sI s) (hs : X.stack = X.env :: X.outer) (hf : X.env.frame = some X.env.locals) (tk : Takes X W) (w : W cls d σ H) : wpAny (model X.prog X.w) X.A (handleBy (.ref a) X.env []) Q X.xe s := by
  have up : wpAny (model X.prog X.w) X.A (do setFlight (.ref a) X.env.frame; throw (.ref a) : Sem Flow) Q X.xe s := by
    rw [hf]
    exact wpAny_bind (HandSPX.setFlight_upZ z.lies fun g l u => wpAny_throw (tk _ _ ⟨a, B, sI, pins, σ, H, cls, d, rfl, z.ground, z.apart, z.slots.trans u, by rw [hs]; exact Or.inr (Or.inr l), z.new, z.out, z.bare, w⟩))
  obtain ⟨_, _, _, oe, vs, T, _, _, h1, _, h2, h3, _⟩ := id z.lies
  refine wpAny_handleBy_nil ?_
  unfold PySem.passOn
  refine wpAny_bind (wpAny_field h1 h2 h3 ?_)
  have ne : ¬ ((Value.ref T == Value.none) = true) := by simp
  rw [if_neg ne]
  first
  | exact up
  | exact wpAny_bind (wpAny_pure up)
/-- one clause: its class is asked; where it fits its suite is run, and the name is gone behind it -/
theorem Down.clause {x n : Str} {c : Value} {i : Nat} {ts : TS} {b₀ : Stmt} {suite : List Stmt} {np pos' : Pos} {rest : List ExceptHandler} {D : Ends} {b : Bool} (z : Down X pins σ H a cls d B sI s) (hf : X.env.frame = some X.env.locals)
    (hN : X.N.Nodup) (hi : X.N[i]? = some n) (hln : X.env.kindOf n = some .local) (hc : Names X x c) (hx : PySem.W.exmOne X.K cls c = some b)
    (hsu : ∀ (oe : Obj) (pn : List (Addr × Obj)), Zc cls d oe → (∃ vs, oe.data = .fields vs) → PSs (X.suite a ((a, oe) :: pn)) (b₀ :: suite) ts)
    (hyes : b = true → ts { nx := fun σ' H' => D.nx (σ'.set i none) H', rt := D.rt, bk := fun σ' H' => D.bk (σ'.set i none) H', ct := fun σ' H' => D.ct (σ'.set i none) H' } (σ.set i (some (.ref a))) H)
    (hno : b = false → wpAny (model X.prog X.w) X.A (handleBy (.ref a) X.env rest) (SP X pins D) X.xe s) :
    wpAny (model X.prog X.w) X.A (handleBy (.ref a) X.env (.ExceptHandler (some (.Name x np)) (some n) (b₀ :: suite) pos' :: rest)) (SP X pins D) X.xe s := by
  refine wpAny_handleBy_cons (codeAny_handlers_test ?_) (fun e => nomatch e)
  obtain ⟨oe, hz, _, S⟩ := z.suite hf
  have kind : PySem.W.Looks (model X.prog X.w) s.heap (typeOf (.ref a)) cls := fun A Q E g k q => by
    obtain ⟨o1, _, h1, h2, _⟩ := z.lies.there
    exact wpAny_typeOf_ref (k _ _ h1) (h2.1 ▸ q)
  have asked : ∀ {Q : Value → Shared → Prop} {F : Value → Shared → Prop}, Q c s → wpAny (model X.prog X.w) (X.A.mark (some (.ref a))) (eval (.Name x np) X.env) Q F s := fun {Q F} q =>
    hc.2.2.elim (fun m => ld_glob (X := X.suite a ((a, oe) :: (X.pn ++ pins))) S hc.1 m q hc.2.1) fun m => ld_blt (X := X.suite a ((a, oe) :: (X.pn ++ pins))) S hc.1 m.1 m.2.1 q m.2.2 hc.2.1
  refine asked ((PySem.W.exm_one z.inv.kIn kind hx).here ?_)
  cases b with
  | false => exact hno rfl
  | true =>
    refine codeAny_handlers_suite_as (z.again fun s1 z1 => ?_)
    obtain ⟨o1, k1, k2, S1⟩ := z1.suite hf
    refine store_ok (X := X.suite a ((a, o1) :: (X.pn ++ pins))) (v := .ref a) S1 hN hi (Or.inl hln) rfl (fun s2 S2 => ?_) (Or.inr hln)
    refine wpAny_mono ((hsu o1 _ k1 k2).run [] s2 _ H _ S2 (hyes rfl)) (fun f s3 h => ?_) fun _ _ e => e.elim
    have gone : ∀ {σ3 : L2.St} {H3 : Hp} {R : Shared → Prop}, Inv (X.suite a ((a, o1) :: (X.pn ++ pins))) [] σ3 H3 s3 → (∀ s4, Inv X pins (σ3.set i none) H3 s4 → R s4) →
        wpAny (model X.prog X.w) X.A (do bindName X.env n .none; unbindBehindTheSuite X.env n pos') (fun _ s4 => R s4) X.xe s3 := fun g r => gone_ok (g.unsuite z.ground.ok) hN hi hln r
    match f, h with
    | .next, ⟨_, _, g, q⟩ => exact gone g fun _ k => ⟨_, _, k, q⟩
    | .brk, ⟨_, _, g, q⟩ => exact gone g fun _ k => ⟨_, _, k, q⟩
    | .cont, ⟨_, _, g, q⟩ => exact gone g fun _ k => ⟨_, _, k, q⟩
    | .ret u, ⟨_, _, _, g, r, q⟩ => exact gone g fun _ k => ⟨_, _, _, k, r, q⟩
theorem HdsAs.all {n : Str} {i : Nat} {D : Ends} {W : WX} {hds : List ExceptHandler} {l : List (Value × (Addr → Value → Option Addr → TS))} (hh : HdsAs X n hds l) (z : Down X pins σ H a cls d B sI s) (hs : X.stack = X.env :: X.outer) (hf : X.env.frame = some X.env.locals)
    (hN : X.N.Nodup) (hi : X.N[i]? = some n) (hln : X.env.kindOf n = some .local) (tk : Takes X W) (w : wManyAs X.K i W D l cls d σ H) : wpAny (model X.prog X.w) X.A (handleBy (.ref a) X.env hds) (SP X pins D) X.xe s := by
  induction hh with
  | nil => exact z.leaves hs hf tk w
  | cons hc hsu _ ih =>
    obtain ⟨b, hx, yes, no⟩ := w
    exact z.clause hf hN hi hln hc hx (fun oe pn => hsu a oe cls d pn) (fun h => yes h a z.new) fun h => ih (no h)
end
section
variable {X : Cx} {n : Str} {i : Nat} {body : List Stmt} {h₀ : ExceptHandler} {hds : List ExceptHandler} {l : List (Value × (Addr → Value → Option Addr → TS))} {pos : Pos} {tb : WX → TS} {Wout : WX}
/-- what becomes of an exception e that comes out of the body -/
abbrev seen (X : Cx) (pins : List (Addr × Obj)) (D : Ends) (hds : List ExceptHandler) (e : Value) (s : Shared) : Prop :=
  wpAny (model X.prog X.w) X.A (noteFrame e X.env) (fun _ => wpAny (model X.prog X.w) X.A (setFlight e none) (fun _ => wpAny (model X.prog X.w) X.A (handleBy e X.env hds) (SP X pins D) X.xe) X.xe) X.xe s
theorem ps_try_manyAs (hs : X.stack = X.env :: X.outer) (hf : X.env.frame = some X.env.locals) (hN : X.N.Nodup) (hi : X.N[i]? = some n) (hln : X.env.kindOf n = some .local) (tk : Takes X Wout)
    (hb : ∀ (W : WX) (pn : List (Addr × Obj)) (xe : Value → Shared → Prop), Takes (X.tr pn xe) W → PassesOwn (model X.prog X.w) X.A X.env xe → PSs (X.tr pn xe) body (tb W))
    (hh : HdsAs X n (h₀ :: hds) l) : PS X (.Try body (h₀ :: hds) [] [] pos) (fun D σ H => tb (wManyAs X.K i Wout D l) D σ H) := by
  refine ⟨fun pins s σ H D I h => wpAny_Try_except ?_⟩
  have frames : X.A.frames = some (X.env :: X.outer) := I.ok.frames.trans (congrArg some hs)
  have rule := hb (wManyAs X.K i Wout D l) (X.pn ++ pins) (seen X pins D (h₀ :: hds)) (fun u s' h' => ?_) PassesOwn.looking
  · refine wpAny_mono (rule.run [] s σ H D (I.toTry _) h) (fun f s1 g => ?_) fun _ _ e => e
    match f, g with
    | .next, ⟨_, _, k, q⟩ => exact wpAny_execs_nil ⟨_, _, k.ofTry I.ok, q⟩
    | .brk, ⟨_, _, k, q⟩ => exact ⟨_, _, k.ofTry I.ok, q⟩
    | .cont, ⟨_, _, k, q⟩ => exact ⟨_, _, k.ofTry I.ok, q⟩
    | .ret u, ⟨_, _, _, k, r, q⟩ => exact ⟨_, _, _, k.ofTry I.ok, r, q⟩
  · obtain ⟨a, B, sI, _, σ1, H1, cls, d, rfl, J, nb, up, sky, na, os, ag, w⟩ := h'
    rw [show (X.tr (X.pn ++ pins) (seen X pins D (h₀ :: hds))).stack = X.env :: X.outer from hs] at sky
    exact Sky.land Zc.steady frames hf sky fun g l u => hh.all ⟨J.ofTry I.ok, nb, l, up.trans u, na, os, ag⟩ hs hf hN hi hln tk w
end
section
variable {K : PySem.W.Frag} {i : Nat} {Wout : WX} {Dn : Ends} {c cls : Value} {d : Option Addr} {ts : Addr → Value → Option Addr → TS} {r : List (Value × (Addr → Value → Option Addr → TS))} {σ : L2.St} {H : Hp}
theorem clause_no (h : PySem.W.exmOne K cls c = some false) (k : wManyAs K i Wout Dn r cls d σ H) : wManyAs K i Wout Dn ((c, ts) :: r) cls d σ H := ⟨false, h, fun z => Bool.noConfusion z, fun _ => k⟩
theorem clause_yes (h : PySem.W.exmOne K cls c = some true)
    (k : ∀ a, H a = none → ts a cls d { nx := fun σ' H' => Dn.nx (σ'.set i none) H', rt := Dn.rt, bk := fun σ' H' => Dn.bk (σ'.set i none) H', ct := fun σ' H' => Dn.ct (σ'.set i none) H' } (σ.set i (some (.ref a))) H) : wManyAs K i Wout Dn ((c, ts) :: r) cls d σ H := ⟨true, h, fun _ => k, fun z => Bool.noConfusion z⟩
end
/-- a def that is called in a suite; its promise knows the class and the place of what is held -/
structure FnE (P : Program) (w : World) (K : PySem.W.Frag) (mg : Str → Option Value) (base : Heap) (k : Nat) (f : Addr) (fd : FuncData) (ps : List Str) (sp : Value → Addr → Sp) : Prop where
  len : ∀ cls a vs H Q E, sp cls a vs H Q E → vs.length = ps.length
  run : ∀ (A : Around) (outer : List Env) (s : Shared) (H : Hp) (args : Args) (us : List Value) (vs : List V) (Q : VK) (E : XK) (p : Addr × Obj) (cls : Value), L2H.RoomH k A → Zc cls none p.2 → (∃ vs, p.2.data = .fields vs) → L2H.PinOk outer H s p → Env0 P w K mg base A outer s H →
    BindsTo s fd args (ps.zip us) → Vals vs us → sp cls p.1 vs H Q E → codeAny (model P w) A (.call (.ref f) args) (CR CX0 outer P w H s Q E) s
section
variable {P : Program} {w : World} {K : PySem.W.Frag} {mg : Str → Option Value} {base : Heap} {k : Nat} {f : Addr} {name qual : Str} {params : Arguments} {body : List Stmt} {scope : Scope} {dV kV doc pm cdv ct oc : Value} {an od : Option Addr} {osl : Array (Option Value)} {N ps : List Str}
/-- the def is entered: its frame stands, its parameters are bound -/
theorem call_enters {A : Around} {outer : List Env} {s : Shared} {H : Hp} {args : Args} {us : List Value} {R : Result → Shared → Prop} (lk : K.lookup f = some ⟨oc, od, .func (PySem.W.fnOf name qual params body scope dV kV doc pm an cdv ct), osl⟩) (hcd : PySem.W.codeIn K cdv qual = true) (S : FnScope N ps scope)
    (deep : A.depth < recursionLimit) (e0 : Env0 P w K mg base A outer s H) (hb : BindsTo s (PySem.W.fnOf name qual params body scope dV kV doc pm an cdv ct) args (ps.zip us))
    (go : ∀ s1, InCallC s s.heap.objs.size (bindL (envOfC qual scope s.heap.objs.size f cdv).kindOf (ps.zip us) fun _ => none) (cellsFrom (s.heap.objs.size + 1) scope.names []) (bindC (envOfC qual scope s.heap.objs.size f cdv).kindOf (ps.zip us) fun _ => none) s1 → codeAny (model P w) A (.func body (envOfC qual scope s.heap.objs.size f cdv)) R s1) :
    codeAny (model P w) A (.call (.ref f) args) R s := by
  have here : K.In s.heap := e0.mod.kin.keeps fun b o e => (e0.bs b o e).1
  refine codeAny_call_function deep (here _ _ lk) rfl S.co S.gen rfl (PySem.W.codeRec_of here hcd) (hb _ _ _ _ (wpAny_newFunctionEnv_cells S.kind (fun y hy => ?_) fun env he s1 x => ?_))
  · exact (S.par y.1 (List.of_mem_zip hy).1).imp_right fun q => ⟨q, PySem.W.cellsFrom_some _ _ _ (Or.inl q)⟩
  · subst he
    exact ⟨(e0.mod.nolimit.keeps fun b o e => (e0.bs b o e).1).keeps x.toInCall.keep, go s1 x⟩
theorem fn_ofE {sp : Value → Addr → Sp} (lk : K.lookup f = some ⟨oc, od, .func (PySem.W.fnOf name qual params body scope dV kV doc pm an cdv ct), osl⟩) (hcd : PySem.W.codeIn K cdv qual = true) (S : FnScope N ps scope)
    (len : ∀ cls a vs H Q E, sp cls a vs H Q E → vs.length = ps.length)
    (hbody : ∀ (A : Around) (outer : List Env) (s : Shared) (H : Hp) (vs : List V) (Q : VK) (E : XK) (p : Addr × Obj) (cls : Value), Zc cls none p.2 → (∃ vs, p.2.data = .fields vs) → L2H.RoomH k (A.deeper (envOfC qual scope s.heap.objs.size f cdv)) → sp cls p.1 vs H Q E →
      ∃ t, PSs (L2H.cxH CX0 P w K mg base N qual scope f cdv A outer s H E p) body t ∧ t { nx := fun _ H' => Q .non H', rt := Q } (L2.start N vs) H) :
    FnE P w K mg base (k + 1) f (PySem.W.fnOf name qual params body scope dV kV doc pm an cdv ct) ps sp := by
  constructor
  · exact len
  intro A outer s H args us vs Q E p cls hr hz hf hpin e0 hb r hsp
  obtain ⟨t, ht, hq⟩ := hbody A outer s H vs Q E p cls hz hf (hr.deeper _) hsp
  refine call_enters lk hcd S hr.depth e0 hb fun s1 x => codeAny_func ?_
  refine wpAny_mono (ht.run [] s1 _ H _ (L2H.inv_startH S hpin e0 (len _ _ _ _ _ _ hsp) r x) hq) (fun fl s2 h => ?_) fun _ _ h => h
  match fl, h with
  | .ret u, ⟨v, _, H2, J, ru, q⟩ => exact ⟨v, H2, J.os, J.bare, J.base, J.hok, ru, q⟩
  | .next, ⟨_, H2, J, q⟩ => exact ⟨.non, H2, J.os, J.bare, J.base, J.hok, rfl, q⟩
  | .brk, ⟨_, _, _, q⟩ => exact (show False from q).elim
  | .cont, ⟨_, _, _, q⟩ => exact (show False from q).elim
end
/-- a call of such a def, a and oe what is held -/
def tCallE (sp : Value → Addr → Sp) (cls : Value) (d : Option Addr) (a : Addr) (t : TA) : TE := fun σ H Q => t σ H fun vs H1 => d = none ∧ sp cls a vs H1 Q E0
structure CalE (P : Program) (w : World) (K : PySem.W.Frag) (mg : Str → Option Value) (base : Heap) (x : Str) (ps : List Str) (k : Nat) (sp : Value → Addr → Sp) : Prop where
  ex : ∃ f fd, FnE P w K mg base k f fd ps sp ∧ mg x = some (.ref f) ∧ PySem.W.keepIn K (.ref f) = true ∧ Binds K fd ps []
section
variable {X : Cx} {x : Str} {ps : List Str} {k k' : Nat} {sp : Value → Addr → Sp} {q pos : Pos} {e : Expr} {es : List Expr} {t : TA} {cls : Value} {d : Option Addr} {a : Addr} {oe : Obj}
/-- the state as such a def finds it -/
theorem pinned {pins : List (Addr × Obj)} {σ : L2.St} {H : Hp} {s : Shared} (I : Inv X pins σ H s) (hp : (a, oe) ∈ X.pn) : L2H.PinOk X.stack H s (a, oe) := by
  obtain ⟨h1, h2, h3, h4, h5⟩ := I.pin (a, oe) (List.mem_append_left _ hp)
  refine ⟨h1, h2, fun hm => ?_, h5⟩
  rcases List.mem_cons.mp (I.stkSub _ hm) with e | e
  · exact h3 e
  · exact h4 e
theorem pe_calE (C : CalE X.prog X.w X.K X.mg X.base x ps k sp) (hr : L2H.RoomH k' X.A) (hk : k ≤ k') (hz : Zc cls d oe) (hf : ∃ vs, oe.data = .fields vs) (hp : (a, oe) ∈ X.pn) (hg : Gl X x) (ha : PA X (e :: es) t)
    (hdb : (x == ("__debug__" : Str)) = false := by decide) (he : starEach (e :: es) X.env = (false, eval e X.env) :: starEach es X.env := by rfl) (hpl : (backTo pos (starEach es X.env)).any (·.1) = false := by rfl) :
    PE X (.Call (.Name x q) (e :: es) [] pos) (tCallE sp cls d a t) := by
  obtain ⟨f, fd, F, hm, hkp, hb⟩ := C.ex
  refine ⟨fun pins s σ H Q I h => wpAny_Call_Name_kw (ld_glob I hg hm (PySem.W.callWith_K (h₀ := X.base) I.ok.mod.kin hkp (thn (ha.run pos pins s σ H _ I h) fun us s1 g => ?_) he hpl) hdb)⟩
  obtain ⟨vs, H1, J, r, rfl, h1⟩ := g
  have b := hb s1 us J.kIn (by rw [List.append_nil, ← r.length]; exact F.len _ _ _ _ _ _ h1)
  rw [List.append_nil] at b
  have run := F.run X.A X.stack s1 H1 ⟨us, []⟩ us vs Q E0 (a, oe) cls (hr.mono hk) hz hf (pinned J hp) J.env0 b r h1
  refine ⟨J.kIn, wpAny_call (codeAny_mono run fun res s2 g => ?_)⟩
  match res, g with
  | .ok (.ret u), g => exact J.after g
  | .ok .next, g => exact (show False from g).elim
  | .ok .brk, g => exact (show False from g).elim
  | .ok .cont, g => exact (show False from g).elim
  | .error e, g => exact (show False from g).elim
/-- isinstance(e, c), e the exception that is pinned -/
theorem call_isP {D : Addr} (hp : (a, oe) ∈ X.pn) (C : ExcC X.K D) (hz : Zc (.ref D) none oe) (hf : ∃ vs, oe.data = .fields vs) : CallR X (.builtin "isinstance") (rIsE X.K D a) := by
  intro pins s σ H xs us Q I r ⟨c, cv, b, hxs, hcv, e, q⟩
  subst hxs
  obtain ⟨u1, u2, rfl, r1, r2⟩ := vals2 r
  obtain rfl : u1 = Value.ref a := r1
  obtain rfl := hcv u2 r2
  obtain ⟨vs, hv⟩ := hf
  have at_ : PySem.W.InstAt s.heap a oe D none := by
    have hg := (I.pin (a, oe) (List.mem_append_left _ hp)).1
    rcases oe with ⟨oc, od, dt, sl⟩
    rcases hz with ⟨rfl, rfl⟩
    cases hv
    exact ⟨hg, rfl, rfl, trivial⟩
  have Z := PySem.W.handS_kitx_exc (x := a) (ox := oe) C.hg C.hk C.hs C.hd C.ha C.hn C.ht C.hm
  exact PySem.W.kia_one Z I.kIn at_ e (fun z => nomatch z) fun tk => ⟨.bl b, H, I.tok tk, rfl, q⟩
theorem call_str_bl {X : Cx} : CallR X (.type "str") (fun xs H Q => ∃ b, xs = [.bl b] ∧ Q (.str (if b then "True" else "False")) H) := by
  intro pins s σ H xs us Q I r h
  obtain ⟨b, rfl, q⟩ := h
  obtain ⟨u, rfl, rfl⟩ := vals1 r
  exact PySem.P.str_of_bool ⟨.str _, H, I.tok _, ⟨_, rfl⟩, q⟩
end
/-- what a refusal's class says of the others -/
structure Kinds (K : PySem.W.Frag) (mg : Str → Option Value) (d : Str) : Prop where
  ec : ExcC K (cadr mg d)
  self : PySem.W.kitOne K (.ref (cadr mg d)) (.ref (cadr mg d)) = some true
  pe : PySem.W.kitOne K (.ref (cadr mg d)) (.ref (cadr mg "PackError")) = some true
  ve : PySem.W.kitOne K (.ref (cadr mg d)) (.type "ValueError") = some true
  k1 : (("BadBook" : Str) == d) = false → PySem.W.kitOne K (.ref (cadr mg d)) (.ref (cadr mg "BadBook")) = some false
  k2 : (("BadShares" : Str) == d) = false → PySem.W.kitOne K (.ref (cadr mg d)) (.ref (cadr mg "BadShares")) = some false
  k3 : (("BadSign" : Str) == d) = false → PySem.W.kitOne K (.ref (cadr mg d)) (.ref (cadr mg "BadSign")) = some false
  k4 : (("BadCount" : Str) == d) = false → PySem.W.kitOne K (.ref (cadr mg d)) (.ref (cadr mg "BadCount")) = some false
  k5 : (("BadBit" : Str) == d) = false → PySem.W.kitOne K (.ref (cadr mg d)) (.ref (cadr mg "BadBit")) = some false
  k6 : (("Loose" : Str) == d) = false → PySem.W.kitOne K (.ref (cadr mg d)) (.ref (cadr mg "Loose")) = some false
  k7 : (("Short" : Str) == d) = false → PySem.W.kitOne K (.ref (cadr mg d)) (.ref (cadr mg "Short")) = some false
  k8 : (("BadLine" : Str) == d) = false → PySem.W.kitOne K (.ref (cadr mg d)) (.ref (cadr mg "BadLine")) = some false
section
variable {K : PySem.W.Frag} {mg : Str → Option Value} {c d : Str} {σ : L2.St} {H : Hp} {ta tb : TE} {a D : Addr}
theorem kd_is (self : PySem.W.kitOne K (.ref (cadr mg d)) (.ref (cadr mg d)) = some true) (no : (c == d) = false → PySem.W.kitOne K (.ref (cadr mg d)) (.ref (cadr mg c)) = some false) : PySem.W.kitOne K (.ref (cadr mg d)) (.ref (cadr mg c)) = some (c == d) := by
  cases h : (c == d) with
  | false => exact no h
  | true => rw [eq_of_beq h]; exact self
/-- int(isinstance(e, c)), c a class of one's own -/
theorem ev_isP {b : Bool} {C : Addr} (ha : Ev ta σ H (.ref a)) (hb : Ev tb σ H (.ref C)) (h : PySem.W.kitOne K (.ref D) (.ref C) = some b) : Ev (tCB (rIsE K D a) (tCons ta (tCons tb tNil))) σ H (.bl b) :=
  ev_cb (ea_cons ha (ea_cons hb ea_nil)) fun H1 _ Q q => ⟨.ref C, .ref C, b, rfl, fun u hu => hu, h, q H1 (Ex.refl _)⟩
theorem ev_isPt {b : Bool} {n : String} (ha : Ev ta σ H (.ref a)) (hb : Ev tb σ H (.ty n)) (h : PySem.W.kitOne K (.ref D) (.type n) = some b) : Ev (tCB (rIsE K D a) (tCons ta (tCons tb tNil))) σ H (.bl b) :=
  ev_cb (ea_cons ha (ea_cons hb ea_nil)) fun H1 _ Q q => ⟨.ty n, .type n, b, rfl, fun u hu => hu, h, q H1 (Ex.refl _)⟩
theorem ev_calE {sp : Value → Addr → Sp} {cls : Value} {t : TA} {vs : List V} {z : V} (ha : EvA t σ H vs) (h : ∀ H1, Ex H H1 → ∀ Q : VK, RetV z H1 Q → sp cls a vs H1 Q E0) : Ev (tCallE sp cls none a t) σ H z := fun H1 e1 Q q =>
  ha H1 e1 _ fun H2 e2 => ⟨rfl, h H2 (e1.trans e2) Q fun H3 e3 => q H3 (e2.trans e3)⟩
end
/-- either reading will do -/
theorem pe_either {X : Cx} {e : Expr} {t u : TE} (h1 : PE X e t) (h2 : PE X e u) : PE X e (fun σ H Q => t σ H Q ∨ u σ H Q) :=
  ⟨fun pins s σ H Q I h => h.elim (h1.run pins s σ H Q I) (h2.run pins s σ H Q I)⟩
/-- an object made within a try -/
def tMakeS (C : Addr) (sp : Sp) (ES : L2.St → XK) (t : TA) : TE := fun σ H Q => t σ H fun vs H1 => ∀ x dx, H1 x = none → H1 dx = none → dx ≠ x → sp (.ref x :: vs) (upd (upd H1 dx (.own x)) x (.ins C dx [])) (fun v H2 => v = .non ∧ Q (.ref x) H2) (ES σ)
theorem pe_mkrS {X : Cx} {x : Str} {m : Str → Option Value} {ps : List Str} {k k' : Nat} {sp : Sp} {ES : L2.St → XK} {p pos : Pos} {e : Expr} {es : List Expr} {t : TA} (em : X.mg = m) (C : MkrX X.prog X.w X.K X.mg X.base x ps k sp) (hx : ∀ σ, PassesAt (L2.CX X.prog X.w) X σ (ES σ)) (hr : Room k' X.A) (hk : k + 1 ≤ k') (hg : Gl X x) (ha : PA X (e :: es) t)
    (hdb : (x == ("__debug__" : Str)) = false := by decide) (he : starEach (e :: es) X.env = (false, eval e X.env) :: starEach es X.env := by rfl) (hpl : (backTo pos (starEach es X.env)).any (·.1) = false := by rfl) :
    PE X (.Call (.Name x p) (e :: es) [] pos) (tMakeS (cadr m x) sp ES t) := by
  subst em
  obtain ⟨f, fd, M, F, hm, b⟩ := C.ex
  refine ⟨fun pins s σ H Q I h => wpAny_Call_Name_kw (ld_glob I hg hm (PySem.W.callWith_K (h₀ := X.base) I.ok.mod.kin M.kp (thn (ha.run pos pins s σ H _ I h) fun us s1 g => ?_) he hpl) hdb)⟩
  obtain ⟨vs, H1, J, r, q⟩ := g
  have now := q (s1.heap.objs.size + 1) s1.heap.objs.size (J.hok.fresh (Nat.le_succ _)) (J.hok.fresh (Nat.le_refl _)) (Nat.ne_of_lt (Nat.lt_succ_self _))
  have J2 := Inv.made (C := cadr X.mg x) J
  have r2 : Vals (V.ref (s1.heap.objs.size + 1) :: vs) (Value.ref (s1.heap.objs.size + 1) :: us) := .cons rfl r
  have hl : (Value.ref (s1.heap.objs.size + 1) :: us ++ []).length = ps.length := by
    rw [List.append_nil, ← r2.length]
    exact F.len _ _ _ _ now
  have bd := b _ (Value.ref (s1.heap.objs.size + 1) :: us) J2.kIn hl
  rw [List.append_nil] at bd
  have run := F.run _ X.stack _ _ ⟨Value.ref (s1.heap.objs.size + 1) :: us, []⟩ _ _ _ (ES σ) ((hr.mono hk).make (cadr X.mg x) us []) (J2.env0.make (cadr X.mg x) us []) bd r2 now
  refine ⟨J.kIn, wpAny_call (make_map (f := f) J.kIn M.makes M.init (beq_iff_eq.mp M.fn) (codeAny_mono run fun res s2 g2 => ?_))⟩
  match res, g2 with
  | .ok (.ret u), g2 =>
    obtain ⟨v, H3, J3, rv, rfl, q3⟩ := J2.after g2
    exact ⟨rv, .ref _, H3, J3, rfl, q3⟩
  | .ok .next, g2 => exact (show False from g2).elim
  | .ok .brk, g2 => exact (show False from g2).elim
  | .ok .cont, g2 => exact (show False from g2).elim
  | .error e, g2 => exact hx σ pins _ _ e s2 J2 g2
section
variable {X : Cx} {x c m : Str} {mg : Str → Option Value} {ps : List Str} {k k' : Nat} {sp : Sp} {pos apos : Pos} {p : Pos} {e o : Expr} {es : List Expr} {t : TA} {ta : TE} {E : XK}
/-- pe_metX, pe_mkrX where the module's names are told by a letter -/
theorem pe_metXm {pl : Sem Bool} (em : X.mg = mg) (C : MetX X.prog X.w X.K X.mg X.base c m ps k sp) (hx : Passes (L2.CX X.prog X.w) X E) (hr : Room k' X.A) (hk : k ≤ k') (he : PE X o ta) (ha : PA X (e :: es) t)
    (hst : starEach (e :: es) X.env = (false, eval e X.env) :: starEach es X.env := by rfl) (hpl : (backTo pos (starEach es X.env)).any (·.1) = false := by rfl)
    (ht : eval (.Call (.Attribute o m apos) (e :: es) [] pos) X.env = (do
      let ov ← eval o X.env
      standAt apos.atName
      let (f, first) ← holding [ov] (getMethod ov m pl)
      callWith pos f first (backTo pos (starEach (e :: es) X.env)) (backToKw pos (keywordEach [] X.env))) := by rfl) :
    PE X (.Call (.Attribute o m apos) (e :: es) [] pos) (tMeth (cadr mg c) m sp [] E ta t) := by
  subst em
  exact pe_metX (pl := pl) C hx hr hk he ha hst hpl ht
theorem pe_mkrXm (em : X.mg = mg) (C : MkrX X.prog X.w X.K X.mg X.base x ps k sp) (hx : Passes (L2.CX X.prog X.w) X E) (hr : Room k' X.A) (hk : k + 1 ≤ k') (hg : Gl X x) (ha : PA X (e :: es) t)
    (hdb : (x == ("__debug__" : Str)) = false := by decide) (he : starEach (e :: es) X.env = (false, eval e X.env) :: starEach es X.env := by rfl) (hpl : (backTo pos (starEach es X.env)).any (·.1) = false := by rfl) :
    PE X (.Call (.Name x p) (e :: es) [] pos) (tMake (cadr mg x) sp [] E t) := by
  subst em
  exact pe_mkrX C hx hr hk hg ha hdb he hpl
end
end SP

set_option maxHeartbeats 4000000
namespace SP
open PySem PySem.Spec PyProof.Rows L2 LamX Evl
/-! lambdas as tracked objects: made, handed on, called -/
structure LF where
  q : Str
  ps : Arguments
  bd : Expr
  sc : Scope
  cl : List (Str × Addr)
  c : Addr
  dv : Value
  dk : Bool
def LF.fd (F : LF) (pm ctv : Value) : FuncData := { PySem.W.kla_fn "<lambda>" F.q F.ps F.bd F.sc F.cl pm (.ref F.c) ctv with defaults := F.dv }
def LF.obj (F : LF) (pm ctv : Value) : Obj := { cls := .type "function", data := .func (F.fd pm ctv) }
def LamO (f : Addr) (F : LF) : HO := .ext fun h => ∃ pm ctv, h.get? f = some (F.obj pm ctv)
/-- its defaults: none, or a single 0 (dk) -/
def DvAt (H : Hp) (dk : Bool) (dv : Value) : Prop := (dk = false ∧ dv = .none) ∨ (dk = true ∧ ∃ T, dv = .ref T ∧ H T = some (.tup [.int 0]))
structure LamAt (H : Hp) (f : Addr) (F : LF) : Prop where
  obj : H f = some (LamO f F)
  code : H F.c = some (CodeO F.c F.q)
  dv : DvAt H F.dk F.dv
theorem lamO_ne {f : Addr} {F : LF} (ps : Array Value) : LamO f F ≠ .tbl ps := fun z => by unfold LamO at z; cases z
theorem DvAt.ext {H H' : Hp} {dk : Bool} {dv : Value} (d : DvAt H dk dv) (e : ExtN H H') : DvAt H' dk dv := d.imp_right fun ⟨h0, T, h1, h2⟩ => ⟨h0, T, h1, e _ _ h2 fun _ z => nomatch z⟩
theorem LamAt.ext {H H' : Hp} {f : Addr} {F : LF} (l : LamAt H f F) (e : ExtN H H') : LamAt H' f F := ⟨e _ _ l.obj lamO_ne, e _ _ l.code codeO_ne, l.dv.ext e⟩
section
variable {X : Cx} {pins : List (Addr × Obj)} {σ : L2.St} {H : Hp} {s : Shared} {E : Value → Shared → Prop} {Q : Value → Shared → Prop} {c P : Addr} {params : Arguments} {body : Expr} {scope : Scope} {pos : Pos} {dV : Value} {dk : Bool}
/-- the last steps: the code object stands, the function is laid -/
theorem lam_laid {cv : Addr} {ctv : Value} (I : Inv X pins σ H s) (TB : TabB X.base X.mg c P) (hc : H cv = some (CodeO cv (X.env.qual ++ "<lambda>")))
    (h : ∀ (f : Addr) (s' : Shared), H f = none → Inv X pins σ (upd H f (LamO f ⟨X.env.qual ++ "<lambda>", params, body, scope, cloFrom X.env.cells scope.names [], cv, dV, dk⟩)) s' → Q (.ref f) s') :
    wpAny (model X.prog X.w) X.A (do
      let b ← builtinsFor X.env.globals X.env.builtins
      let pm ← nsGet X.env.globals "__name__"
      let doc ← (pure Value.none : Sem Value)
      newObj (.type "function") (.func { name := "<lambda>", qualname := X.env.qual ++ "<lambda>", params := params, body := .expr body, scope := scope, globals := X.env.globals, closure := cloFrom X.env.cells scope.names [], closureTuple := ctv, code := .ref cv, builtins := b, defaults := dV, kwdefaults := .none, annotations := none, pyModule := pm.getD .none, doc := doc })) Q E s := by
  obtain ⟨bm, ob, h1, h2, _, _, h3, h4, h5, h6⟩ := TB.bm.keeps I.bk
  have names := I.mod.glob.keeps I.bk
  rw [I.ok.glob]
  refine wpAny_bind (wpAny_builtinsFor names h1 h2 h3 h4 h5 h6 (wpAny_bind (wpAny_nsGet names (wpAny_bind (wpAny_pure (wpAny_newObj_type ?_ (by size_fits)))))))
  refine h s.heap.objs.size _ (I.hok.fresh (Nat.le_refl _)) (I.laid (t' := s.toks) (fun b u e => Heap.get?_push_of_some _ e) (Nat.le_refl _) ?_)
  have at_ := Heap.get?_push_size (h := s.heap) (o := (LF.mk (X.env.qual ++ "<lambda>") params body scope (cloFrom X.env.cells scope.names []) cv dV dk).obj ((X.mg "__name__").getD .none) ctv) rfl
  exact ⟨⟨_, _, at_⟩, ⟨_, at_⟩, fun _ _ ⟨p, t, z⟩ st => ⟨p, t, st _ z⟩⟩
/-- the code object is new, or found in the table -/
theorem lam_code {T : List (Addr × Str)} {fb : FuncBody} {name : Str} {line : Nat} (I : Inv X pins σ H s) (TB : TabB X.base X.mg c P) (hcode : X.env.code = .ref c) (hm : (P, X.env.qual ++ "<lambda>") ∈ T) (hu : ∀ p ∈ T, p.1 = P → p.2 = X.env.qual ++ "<lambda>") (hT : Tabs T H)
    (h : ∀ (c' : Addr) (H1 : Hp) (s' : Shared), Inv X pins σ H1 s' → ExtN H H1 → Tabs T H1 → H1 c' = some (CodeO c' (X.env.qual ++ "<lambda>")) → Q (.ref c') s') :
    wpAny (model X.prog X.w) X.A (functionCode X.env pos line name (X.env.qual ++ "<lambda>") params scope fb) Q E s := by
  obtain ⟨ps, hP, ht, ha⟩ := hT _ hm
  have lies : s.heap.get? P = some { cls := .none, data := .fields ps } := I.hok P _ hP
  have head := TB.code.keeps I.bk
  cases hc : codeAmong pos ps.toList with
  | some cv =>
    obtain ⟨c', rfl, hC⟩ := ha pos cv hc
    exact wpAny_functionCode_hit hcode (head.code lies ht) hc (h c' H s I (ExtN.refl H) hT hC)
  | none =>
    refine wpAny_functionCodeX hcode (head.code lies ht) (head.tab lies) hc fun c' g tk hx hge _ _ hrec htb _ => ?_
    obtain ⟨_, oc, vs, t, e, hoc, hd, hv⟩ := hrec
    cases e
    have fresh : H c' = none := I.hok.fresh hge
    have J := inv_table (t' := tk) (more := #[rawInt pos.line, rawInt pos.col, .ref c']) (h' := g) I hP hx htb.2 hge ⟨oc, vs, t, hoc, hd, hv⟩
    have grows : ExtN H (upd (upd H P (.tbl (ps ++ #[rawInt pos.line, rawInt pos.col, .ref c']))) c' (CodeO c' (X.env.qual ++ "<lambda>"))) := fun b o e n => by
      have hbP : b ≠ P := fun z => n ps (Option.some.inj (e.symm.trans (z ▸ hP)))
      rw [upd_ne (ne_of_none e fresh), upd_ne hbP]
      exact e
    refine h c' _ _ J grows (fun p hp => ?_) upd_same
    by_cases hb : p.1 = P
    · have eL : (ps ++ #[rawInt pos.line, rawInt pos.col, .ref c']).toList = ps.toList ++ [rawInt pos.line, rawInt pos.col, .ref c'] := by simp
      rw [hu p hp hb, hb]
      refine ⟨_, (upd_ne (ne_of_none hP fresh)).trans upd_same, eL ▸ PySem.TriplesOk_snoc _ _ _ _ ht, fun p' cv hcv => ?_⟩
      rcases among_app _ ht (eL ▸ hcv) with z | z
      · obtain ⟨c0, e1, e2⟩ := ha p' cv z
        exact ⟨c0, e1, grows _ _ e2 codeO_ne⟩
      · exact ⟨c', z, upd_same⟩
    · obtain ⟨qs, a1, a2, a3⟩ := hT p hp
      refine ⟨qs, (upd_ne (ne_of_none a1 fresh)).trans ((upd_ne hb).trans a1), a2, fun p' cv hcv => ?_⟩
      obtain ⟨c0, e1, e2⟩ := a3 p' cv hcv
      exact ⟨c0, e1, grows _ _ e2 codeO_ne⟩
theorem lam_tail {T : List (Addr × Str)} {line : Nat} (I : Inv X pins σ H s) (TB : TabB X.base X.mg c P) (hcode : X.env.code = .ref c) (hm : (P, X.env.qual ++ "<lambda>") ∈ T) (hu : ∀ p ∈ T, p.1 = P → p.2 = X.env.qual ++ "<lambda>") (hT : Tabs T H)
    (hfree : ∀ y ∈ scope.names, y.2 = .free → ∃ c, X.env.cells.lookup y.1 = some c)
    (h : ∀ (f c' : Addr) (H1 : Hp) (s' : Shared), Inv X pins σ H1 s' → ExtN H H1 → Tabs T H1 → H1 f = some (LamO f ⟨X.env.qual ++ "<lambda>", params, body, scope, cloFrom X.env.cells scope.names [], c', dV, dk⟩) → H1 c' = some (CodeO c' (X.env.qual ++ "<lambda>")) → Q (.ref f) s') :
    wpAny (model X.prog X.w) X.A (makeTail "<lambda>" (X.env.qual ++ "<lambda>") params (.expr body) scope X.env dV .none none pos line) Q E s := by
  unfold makeTail
  rw [closure_ok hfree]
  have fin : ∀ (c' : Addr) (H1 : Hp) (s1 : Shared), Inv X pins σ H1 s1 → ExtN H H1 → Tabs T H1 → H1 c' = some (CodeO c' (X.env.qual ++ "<lambda>")) → ∀ (f : Addr) (s' : Shared), H1 f = none →
      Inv X pins σ (upd H1 f (LamO f ⟨X.env.qual ++ "<lambda>", params, body, scope, cloFrom X.env.cells scope.names [], c', dV, dk⟩)) s' → Q (.ref f) s' := fun c' H1 s1 _ e1 T1 hC f s' hf J => by
    have n : ExtN H1 (upd H1 f (LamO f ⟨X.env.qual ++ "<lambda>", params, body, scope, cloFrom X.env.cells scope.names [], c', dV, dk⟩)) := ExtN.of fun b o e => (upd_ne (ne_of_none e hf)).trans e
    exact h f c' _ s' J (e1.trans n) (T1.ext fun b o e => (upd_ne (ne_of_none e hf)).trans e) upd_same (n _ _ hC codeO_ne)
  refine wpAny_bind (wpAny_pure ?_)
  by_cases hE : (cloFrom X.env.cells scope.names []).isEmpty = true
  · rw [if_pos hE]
    refine wpAny_bind (wpAny_pure (wpAny_bind (lam_code I TB hcode hm hu hT fun c' H1 s1 J e1 T1 hC => ?_)))
    exact lam_laid J TB hC (fin c' H1 s1 J e1 T1 hC)
  · rw [if_neg hE]
    refine wpAny_bind (wpAny_newTextTuple (wpAny_bind (lam_code (I.kept (t' := s.toks) fun b o e => Heap.get?_push_of_some _ e) TB hcode hm hu hT fun c' H1 s1 J e1 T1 hC => ?_)))
    exact lam_laid J TB hC (fin c' H1 s1 J e1 T1 hC)
end
/-- the names of a lambda: captured ones, globals, and parameters that bear no name of the def -/
structure LamL (N : List Str) (sc scope : Scope) : Prop where
  kind : scope.kind = .function
  co : scope.isCoroutine = false
  gen : scope.isGenerator = false
  nocell : ∀ y ∈ scope.names, y.2 ≠ .cell
  own : ∀ y ∈ scope.names, y.2 = .local → y.1 ∉ N
  free : ∀ y ∈ scope.names, y.2 = .free → sc.names.lookup y.1 = some .cell ∨ sc.names.lookup y.1 = some .free
def lamLB (N : List Str) (sc scope : Scope) : Bool :=
  decide (scope.kind = .function) && (!scope.isCoroutine && (!scope.isGenerator && scope.names.all fun y => !decide (y.2 = .cell) && ((!decide (y.2 = .local) || !decide (y.1 ∈ N)) && (!decide (y.2 = .free) || (decide (sc.names.lookup y.1 = some .cell) || decide (sc.names.lookup y.1 = some .free))))))
theorem lamL_by {N : List Str} {sc scope : Scope} (h : lamLB N sc scope = true) : LamL N sc scope := by
  unfold lamLB at h
  simp only [Bool.and_eq_true, Bool.or_eq_true, Bool.not_eq_true', decide_eq_true_eq, decide_eq_false_iff_not, List.all_eq_true] at h
  obtain ⟨a1, a2, a3, a4⟩ := h
  exact ⟨a1, a2, a3, fun y hy => (a4 y hy).1, fun y hy e => (a4 y hy).2.1.elim (fun z => absurd e z) id, fun y hy e => (a4 y hy).2.2.elim (fun z => absurd e z) id⟩
theorem lamL_at {M : List Str} {sd : Scope} {N : List Str} {sc scope : Scope} (h1 : M = N) (h2 : sd = sc) (h : lamLB N sc scope = true) : LamL M sd scope := by
  subst h1 h2
  exact lamL_by h
theorem LamL.has {X : Cx} {N : List Str} {scope : Scope} (L : LamL N X.env.scope scope) (ok : X.Ok) : ∀ y ∈ scope.names, y.2 = .free → ∃ c, X.env.cells.lookup y.1 = some c := fun y hy e => ok.has _ (L.free y hy e)
section
variable {X : Cx} {pins : List (Addr × Obj)} {σ : L2.St} {H HZ : Hp} {s s1 : Shared} {scope : Scope}
theorem clo_same (L : LamL X.N X.env.scope scope) (ok : X.Ok) {y : Str} {c : Addr} (h : (cloFrom X.env.cells scope.names []).lookup y = some c) : X.env.cells.lookup y = some c := by
  rcases cloFrom_mem (PySem.mem_of_lookup h) with z | ⟨hy, hc⟩
  · cases z
  · obtain ⟨d, hd⟩ := L.has ok _ hy rfl
    rw [hd] at hc
    exact hd.trans (congrArg some hc.symm)
/-- the state in which the lambda's body begins: the def's own slots are seen through its cells -/
theorem lam_inv {A : Around} {outer : List Env} {E : XK} {f c' : Addr} {g : Heap} {tk : Nat} {m : Str → Option Value} (I : Inv X pins σ H s) (L : LamL X.N X.env.scope scope) (e0 : Env0 X.prog X.w X.K X.mg X.base A outer s1 HZ) (hd : A.handled = none)
    (un : Un (frs X.stack) [] H HZ s.heap s1.heap) (hns : g.Ns s1.heap.objs.size m) (kp : ∀ b o, s1.heap.get? b = some o → g.get? b = some o) : Inv (lamCx X A outer s1 HZ E scope f c') [] σ HZ { s1 with heap := g, toks := tk } := by
  have same : ∀ {y : Str} {c : Addr}, (cloFrom X.env.cells scope.names []).lookup y = some c → X.env.cells.lookup y = some c := clo_same L I.ok
  have there : ∀ {y : Str}, scope.names.lookup y = some .free → ∃ c, (cloFrom X.env.cells scope.names []).lookup y = some c := fun h => mem_lookup (cloFrom_has (PySem.mem_of_lookup h))
  have cellIn : ∀ {y : Str} {c : Addr} {v : Option Value}, X.env.cells.lookup y = some c → s.heap.IsCell c v → g.IsCell c v := fun h ⟨o, ho, hv⟩ => by
    obtain ⟨sl, q⟩ := un.any ho (I.freeC _ _ h) (fun z => nomatch z)
    exact ⟨_, kp _ _ q, hv⟩
  have noex : ∀ b, b ∉ (lamCx X A outer s1 HZ E scope f c').ex := fun b z => nomatch (show b ∈ ([] : List Addr) from z)
  have ok : (lamCx X A outer s1 HZ E scope f c').Ok := {
    mod := e0.mod, kind := L.kind, glob := rfl, blt := rfl, above := Nat.le_refl _
    inj := fun y z c h1 h2 => I.ok.inj y z c (same h1) (same h2)
    has := fun y hy => by
      rcases (show scope.names.lookup y = some .cell ∨ scope.names.lookup y = some .free from hy) with k | k
      · exact absurd rfl (L.nocell _ (PySem.mem_of_lookup k))
      · exact there k
    cab := fun y c z => nomatch (show false = true from z)
    hd := fun _ => hd
    frames := Around.frames_deeper e0.frames
    stk := Or.inr ⟨rfl, rfl⟩
    exf := fun b z => absurd z (noex b)
    bs := e0.bs, bsz := e0.bsz
    noex := fun b _ _ => noex b
    exfs := fun b z => absurd z (noex b)
    funs := e0.funs, frf := e0.frf }
  exact {
    ok := ok, os := rfl, bare := e0.bare, base := Un.kept kp, free := e0.hok.fresh (Nat.le_refl _), hok := e0.hok.kept kp, len := I.len
    loc := ⟨m, hns, fun i y v h1 h2 h3 => by
      have isFree : scope.names.lookup y = some .free := by
        rcases (show Vis scope y from h3) with k | k | k
        · exact absurd (List.mem_of_getElem? h1) (L.own _ (PySem.mem_of_lookup k) rfl)
        · exact absurd rfl (L.nocell _ (PySem.mem_of_lookup k))
        · exact k
      obtain ⟨_, _, seen⟩ := I.loc
      have kinds := L.free _ (PySem.mem_of_lookup isFree) rfl
      obtain ⟨u, ru, lk⟩ := seen i y v h1 h2 (Or.inr kinds)
      obtain ⟨c, hc⟩ := there isFree
      refine ⟨u, ru, Or.inr ⟨Or.inr isFree, c, hc, ?_⟩⟩
      rcases lk with ⟨z, _⟩ | ⟨_, d, e, q⟩
      · have z : X.env.scope.names.lookup y = some .local := z
        rcases kinds with k | k <;> cases z.symm.trans k
      · cases e.symm.trans (same hc)
        exact cellIn e q⟩
    cell := fun y c h => by
      obtain ⟨v, q⟩ := I.cell y c (same h)
      exact ⟨v, cellIn (same h) q⟩
    freeC := fun y c h => by
      obtain ⟨v, o, ho, _⟩ := I.cell y c (same h)
      exact un.free c o ho (I.freeC y c (same h)) (fun z => nomatch z)
    pin := fun q hq => nomatch (show q ∈ ([] : List (Addr × Obj)) from hq) }
end
/-- how it binds no arguments -/
structure LBind (params : Arguments) (scope : Scope) (dk : Bool) : Prop where
  b0 : dk = false → ∀ (q : Str) (bd : Expr) (cl : List (Str × Addr)) (c : Addr) (pm ctv : Value), bindArgs (LF.fd ⟨q, params, bd, scope, cl, c, .none, dk⟩ pm ctv) ⟨[], []⟩ = pure []
  b1 : dk = true → ∃ y : Str, scope.names.lookup y = some .local ∧ ∀ (T : Addr) (q : Str) (bd : Expr) (cl : List (Str × Addr)) (c : Addr) (pm ctv : Value), ∃ k, bindArgs (LF.fd ⟨q, params, bd, scope, cl, c, .ref T, dk⟩ pm ctv) ⟨[], []⟩ = (seqItems? (.ref T) >>= k) ∧ ∀ u, k (some #[u]) = pure [(y, u)]
/-- the function at f may be called in what follows from h0, H0 -/
def Act (P : Program) (w : World) (K : PySem.W.Frag) (mg : Str → Option Value) (base : Heap) (k : Nat) (fs : List Addr) (h0 : Heap) (H0 : Hp) (f : Addr) (F : LF) (tl : XK → Hp → VK → Prop) : Prop :=
  ∀ (A : Around) (outer : List Env) (s : Shared) (H : Hp) (Q : VK) (E : XK), Room k A → Env0 P w K mg base A outer s H → Un fs [] H0 H h0 s.heap → LamAt H f F → tl E H Q →
    codeAny (model P w) A (.call (.ref f) ⟨[], []⟩) (CR (L2.CX P w) outer P w H s Q E) s
section
variable {X : Cx} {pins : List (Addr × Obj)} {σ : L2.St} {H : Hp} {s : Shared} {params : Arguments} {body : Expr} {scope : Scope} {f c' : Addr} {dv : Value} {dk : Bool} {k : Nat} {t : XK → TE}
theorem act_of (I : Inv X pins σ H s) (L : LamL X.N X.env.scope scope) (B : LBind params scope dk)
    (hbody : ∀ (A : Around) (outer : List Env) (s : Shared) (H : Hp) (E : XK), Room k (A.deeper (lamEnv X scope s.heap.objs.size f c')) → PE (lamCx X A outer s H E scope f c') body (t E)) :
    Act X.prog X.w X.K X.mg X.base (k + 1) (frs X.stack) s.heap H f ⟨X.env.qual ++ "<lambda>", params, body, scope, cloFrom X.env.cells scope.names [], c', dv, dk⟩ (fun E H' Q' => t E σ H' Q') := by
  intro A outer s1 HZ Q E hr e0 un lam ht
  obtain ⟨⟨pm, ctv, here⟩, _, _⟩ := e0.hok f _ lam.obj
  obtain ⟨⟨oc, vs, tk, h1, h2, h3⟩, _, _⟩ := e0.hok c' _ lam.code
  refine PySem.W.kla_callFunE hr.depth here rfl L.co L.gen rfl ⟨c', oc, vs, tk, rfl, h1, h2, h3⟩ ?_
  have lim : s1.heap.NoLimit := e0.mod.nolimit.keeps fun b o e => (e0.bs b o e).1
  -- from the bound names on
  have go : ∀ (binds : List (Str × Value)), (∀ y ∈ binds, scope.names.lookup y.1 = some .local) → wpAny (model X.prog X.w) A.in1 (newFunctionEnv scope mainGlobals (cloFrom X.env.cells scope.names []) binds (X.env.qual ++ "<lambda>" ++ ".<locals>.") (some f) (.ref c') none builtinsNs)
      (fun env s₂ => s₂.heap.NoLimit ∧ codeAny (model X.prog X.w) A (.expr body env) (CR (L2.CX X.prog X.w) outer X.prog X.w HZ s1 Q E) s₂) (fun e s' => CR (L2.CX X.prog X.w) outer X.prog X.w HZ s1 Q E (.error e) s') s1 := fun binds hl => by
    refine wpAny_newFunctionEnv L.nocell hl (fun g hns hsb => ⟨lim.fresh _ hsb, ?_⟩) L.kind
    have kp : ∀ b o, s1.heap.get? b = some o → g.get? b = some o := fun b o e => hsb.extBut b o (Nat.ne_of_lt (Heap.lt_size e)) (Heap.get?_push_of_some _ e)
    have J : Inv (lamCx X A outer s1 HZ E scope f c') [] σ HZ { s1 with heap := g, toks := s1.toks + binds.length } := lam_inv I L e0 hr.hd un hns kp
    refine PySem.W.kla_codeExpr (wpAny_mono ((hbody A outer s1 HZ E (hr.deeper _)).run [] _ σ HZ Q J ht) (fun v s' hq => ?_) fun _ _ h => h)
    obtain ⟨w', H', J', rv, q⟩ := hq
    exact ⟨w', H', J'.os, J'.bare, J'.base, J'.hok, rv, q⟩
  rcases lam.dv with ⟨hk, hv⟩ | ⟨hk, T, hv, hT⟩
  · have hv : dv = .none := hv
    subst hv
    have e := B.b0 hk (X.env.qual ++ "<lambda>") body (cloFrom X.env.cells scope.names []) c' pm ctv
    show wpAny _ _ (bindArgs (LF.fd ⟨X.env.qual ++ "<lambda>", params, body, scope, cloFrom X.env.cells scope.names [], c', .none, dk⟩ pm ctv) ⟨[], []⟩) _ _ _
    rw [e]
    exact wpAny_pure (go [] fun _ z => nomatch z)
  · have hv : dv = .ref T := hv
    subst hv
    obtain ⟨y, hy, hb⟩ := B.b1 hk
    obtain ⟨kk, e, ek⟩ := hb T (X.env.qual ++ "<lambda>") body (cloFrom X.env.cells scope.names []) c' pm ctv
    obtain ⟨_, its, ri, o, ho, _, n, hd⟩ := (show ObjOk X.prog X.w HZ s1.heap T (.tup [.int 0]) from e0.hok T _ hT)
    obtain ⟨u, rfl, _⟩ := vals1 ri
    show wpAny _ _ (bindArgs (LF.fd ⟨X.env.qual ++ "<lambda>", params, body, scope, cloFrom X.env.cells scope.names [], c', .ref T, dk⟩ pm ctv) ⟨[], []⟩) _ _ _
    rw [e]
    refine wpAny_bind (wpAny_seqItems ho hd ?_)
    rw [show ([u].toArray) = #[u] from rfl, ek u]
    exact wpAny_pure (go [(y, u)] fun z hz => by rw [List.mem_singleton.mp hz]; exact hy)
/-- x(), x a parameter of the def that got the lambda -/
theorem pe_act0 {F : LF} {H0 : Hp} {h0 : Heap} {fs : List Addr} {tl : XK → Hp → VK → Prop} {W : WX} {i j k : Nat} {a : Str} {p1 p2 : Pos} (act : Act X.prog X.w X.K X.mg X.base k fs h0 H0 f F tl) (h1 : X.s_0.heap = h0) (h2 : X.H_0 = H0) (h3 : X.fs = fs) (h4 : X.ex = []) (tk : Takes X W) (hr : Room j X.A) (hk : k ≤ j)
    (hN : X.N[i]? = some a) (hv : Vis X.env.scope a) (hd : (a == ("__debug__" : Str)) = false := by decide) (hcd : (a == ("__classdict__" : Str)) = false := by decide) :
    PE X (.Call (.Name a p1) [] [] p2) (fun σZ HZ Q => σZ[i]? = some (some (.ref f)) ∧ LamAt HZ f F ∧ ∃ (E' : XK) (Q' : VK), (∀ cls d H', E' cls d H' → W cls d σZ H') ∧ (∀ v H', Q' v H' → Q v H') ∧ tl E' HZ Q') := by
  subst h1 h2 h3
  refine ⟨fun pins s σ H Q I ⟨hs, lam, E', Q', wE, wQ, ht⟩ => ?_⟩
  refine wpAny_Call_Name_kw (thn ((pe_var (pos := p1) hN hv hd hcd).run pins s σ H (fun v H1 => v = .ref f ∧ H1 = H) I ⟨.ref f, hs, rfl, rfl⟩) fun u s1 ⟨v, H1, J, r, e1, e2⟩ => ?_)
  subst e1 e2
  obtain rfl : u = Value.ref f := r
  obtain ⟨⟨pm, ctv, here⟩, _, _⟩ := J.hok f _ lam.obj
  have b := J.base
  rw [h4] at b
  refine PySem.W.callWith_F0 ⟨_, _, _, _, here⟩ (wpAny_call (codeAny_mono (act X.A X.stack s1 H1 Q' E' (hr.mono hk) J.env0 b lam ht) fun r s2 g => ?_))
  match r, g with
  | .ok (.ret u), g =>
    obtain ⟨v, H', g1, g2, g3, g4, g5, g6⟩ := g
    exact J.after ⟨v, H', g1, g2, g3, g4, g5, wQ _ _ g6⟩
  | .ok .next, g => exact (show False from g).elim
  | .ok .brk, g => exact (show False from g).elim
  | .ok .cont, g => exact (show False from g).elim
  | .error e, g =>
    obtain ⟨a, B, H', cls, d, g1, g2, g3, g4, g5, g6, g7, g8⟩ := g
    exact passAt tk σ pins H1 s1 e s2 J ⟨a, B, H', cls, d, g1, g2, g3, g4, g5, g6, g7, wE _ _ _ g8⟩
end
/-! ### making, as an expression -/
def tLam (TL : List (Addr × Str)) (F : Addr → Value → LF) : TE := fun σ H Q => Tabs TL H ∧ ∀ (f c' : Addr) (dv : Value) (H1 : Hp), ExtN H H1 → Tabs TL H1 → LamAt H1 f (F c' dv) → Q (.ref f) H1
/-- its defaults, as they are evaluated -/
def DefOk (params : Arguments) (env : Env) (dk : Bool) : Prop := (dk = false ∧ defaultsOf params env = ([], [])) ∨ (dk = true ∧ ∃ j p, defaultsOf params env = ([eval (.Constant (.int 0) j p) env], []))
section
variable {X : Cx} {TL : List (Addr × Str)} {c P : Addr} {params : Arguments} {body : Expr} {scope : Scope} {pos : Pos} {dk : Bool}
theorem pe_lam (TB : TabB X.base X.mg c P) (hcode : X.env.code = .ref c) (hm : (P, X.env.qual ++ "<lambda>") ∈ TL) (hu : ∀ p ∈ TL, p.1 = P → p.2 = X.env.qual ++ "<lambda>") (L : LamL X.N X.env.scope scope) (hdef : DefOk params X.env dk) :
    PE X (.Lambda params body scope pos) (tLam TL fun c' dv => ⟨X.env.qual ++ "<lambda>", params, body, scope, cloFrom X.env.cells scope.names [], c', dv, dk⟩) := by
  refine ⟨fun pins s σ H Q I ⟨hT, h⟩ => ?_⟩
  rcases hdef with ⟨hk, hdef⟩ | ⟨hk, j, p, hdef⟩
  · refine PySem.W.kla_eval hdef ?_
    rw [makeFunction_eq]
    simp only [List.zip_nil_right, List.filterMap_nil, List.isEmpty_nil, if_true, pure_bind]
    exact lam_tail (dk := dk) I TB hcode hm hu hT (L.has I.ok) fun f c' H1 s1 J e1 T1 h1 h2 => ⟨.ref f, H1, J, rfl, h f c' .none H1 e1 T1 ⟨h1, h2, Or.inl ⟨hk, rfl⟩⟩⟩
  · rw [arm_eval_Lambda, hdef]
    show wpAny _ _ (do let dv ← evalAll [eval (.Constant (.int 0) j p) X.env]; let kdv ← holding dv (evalAllOpt []); makeFunction "<lambda>" (X.env.qual ++ "<lambda>") params (.expr body) scope X.env dv kdv [] pos pos.line) _ _ s
    refine wpAny_bind (wpAny_bind (thn (pe_int.run pins s σ H (fun v H1 => v = .int 0 ∧ H1 = H) I ⟨rfl, rfl⟩) fun u s1 ⟨v, H1, J, r, e1, e2⟩ => ?_))
    subst e1 e2
    refine wpAny_bind (wpAny_holding (wpAny_pure (wpAny_pure (wpAny_bind (wpAny_holding (wpAny_pure ?_))))))
    rw [makeFunction_eq]
    simp only [List.zip_nil_right, List.filterMap_nil, List.isEmpty_nil, List.isEmpty_cons, if_true, pure_bind, Bool.false_eq_true, if_false]
    refine wpAny_bind (wpAny_newTextTuple ?_)
    have new : H1 s1.heap.objs.size = none := J.hok.fresh (Nat.le_refl _)
    have J2 : Inv X pins σ (upd H1 s1.heap.objs.size (.tup [.int 0])) { s1 with heap := s1.heap.push { cls := .type "tuple", data := .seq [u].toArray }, toks := s1.toks } :=
      J.laid (fun b o e => Heap.get?_push_of_some _ e) (Nat.le_refl _) ⟨by show 1 ≤ sizeLine; exact sz_of (by decide), [u], .cons r .nil, _, Heap.get?_push_size _ rfl, rfl, _, rfl⟩
    have grows : ExtN H1 (upd H1 s1.heap.objs.size (.tup [.int 0])) := ExtN.of fun b o e => (upd_ne (ne_of_none e new)).trans e
    refine lam_tail (dk := dk) J2 TB hcode hm hu (hT.ext fun b o e => (upd_ne (ne_of_none e new)).trans e) (L.has J.ok) fun f c' H2 s2 J3 e3 T3 h1 h2 => ?_
    exact ⟨.ref f, H2, J3, rfl, h f c' _ H2 (grows.trans e3) T3 ⟨h1, h2, Or.inr ⟨hk, _, rfl, e3 _ _ upd_same fun _ z => nomatch z⟩⟩⟩
end
/-! ### defs that take a function -/
structure FnA (P : Program) (w : World) (K : PySem.W.Frag) (mg : Str → Option Value) (base : Heap) (k j : Nat) (g : Addr) (fd : FuncData) (a : Str) (sp : (XK → Hp → VK → Prop) → Hp → VK → Prop) : Prop where
  run : ∀ (A : Around) (outer : List Env) (s : Shared) (H : Hp) (args : Args) (f : Addr) (F : LF) (tl : XK → Hp → VK → Prop) (Q : VK), Room k A → Env0 P w K mg base A outer s H → BindsTo s fd args [(a, .ref f)] → Act P w K mg base j (frs outer) s.heap H f F tl → LamAt H f F → sp tl H Q →
    codeAny (model P w) A (.call (.ref g) args) (CR CX0 outer P w H s Q E0) s
structure CalA (P : Program) (w : World) (K : PySem.W.Frag) (mg : Str → Option Value) (base : Heap) (x a : Str) (k j : Nat) (sp : (XK → Hp → VK → Prop) → Hp → VK → Prop) : Prop where
  ex : ∃ f fd, FnA P w K mg base k j f fd a sp ∧ mg x = some (.ref f) ∧ PySem.W.keepIn K (.ref f) = true ∧ L2.Binds K fd [a] []
section
variable {P : Program} {w : World} {K : PySem.W.Frag} {mg : Str → Option Value} {base : Heap}
theorem fn_ofA {k j : Nat} {x qual a : Str} {st : Stmt} {g : Addr} {fd : FuncData} {N : List Str} {sp : (XK → Hp → VK → Prop) → Hp → VK → Prop} (F : Fun K x qual st g fd) (S : FnScope N [a] (defScope st))
    (hbody : ∀ (cdv : Value) (A : Around) (outer : List Env) (s : Shared) (H : Hp) (f : Addr) (L : LF) (tl : XK → Hp → VK → Prop) (Q : VK), Room k (A.deeper (envOfC qual (defScope st) s.heap.objs.size g cdv)) → Act P w K mg base j (frs outer) s.heap H f L tl → LamAt H f L → sp tl H Q →
      ∃ t, PSs (cxOf CX0 P w K mg base N qual (defScope st) g cdv A outer s H E0).nox (defBody st) t ∧ t { nx := fun _ H' => Q .non H', rt := Q } (L2.start N [.ref f]) H) : FnA P w K mg base (k + 1) j g fd a sp := by
  obtain ⟨oc, od, kV, doc, pm, an, cdv, ct, osl, rfl, lk, hcd⟩ := F.ex
  refine ⟨fun A outer s H args f L tl Q hr e0 hb act lam hsp => ?_⟩
  refine run_ofS (N := N) (ps := [a]) (us := [.ref f]) (vs := [.ref f]) lk hcd S hr e0 hb (.cons rfl .nil) rfl fun hr' => ?_
  obtain ⟨t, ht, hq⟩ := hbody cdv A outer s H f L tl Q hr' act lam hsp
  exact ⟨t, ht.nox, hq⟩
/-- a def that holds lambdas: its code object's place is known -/
theorem okC {x qual : Str} {st : Stmt} {f c : Addr} {fd : FuncData} {N ps : List Str} {k : Nat} {sp : Sp} (F : Fun K x qual st f fd) (S : FnScope N ps (defScope st)) (hc : fd.code = .ref c) (len : ∀ vs H Q E, sp vs H Q E → vs.length = ps.length)
    (hbody : ∀ (A : Around) (outer : List Env) (s : Shared) (H : Hp) (vs : List V) (Q : VK) (E : XK), Room k (A.deeper (envOfC qual (defScope st) s.heap.objs.size f (.ref c))) → sp vs H Q E →
      ∃ t, PSs (cxOf CX0 P w K mg base N qual (defScope st) f (.ref c) A outer s H E).nox (defBody st) t ∧ t { nx := fun _ H' => Q .non H', rt := Q } (L2.start N vs) H) : FnOk P w K mg base CX0 (k + 1) f fd ps sp := by
  obtain ⟨oc, od, kV, doc, pm, an, cdv, ct, osl, rfl, lk, hcd⟩ := F.ex
  obtain rfl : cdv = .ref c := hc
  refine fn_of lk hcd S len fun A outer s H vs Q E hr hsp => ?_
  obtain ⟨t, ht, hq⟩ := hbody A outer s H vs Q E hr hsp
  exact ⟨t, ht.nox, hq⟩
end
/-- a call of such a def; IsLam tells what may be handed on -/
def tCalA (IsLam : L2.St → LF → (XK → Hp → VK → Prop) → Prop) (sp : (XK → Hp → VK → Prop) → Hp → VK → Prop) (t : TA) : TE := fun σ H Q => t σ H fun vs H1 => ∃ f F tl, vs = [.ref f] ∧ LamAt H1 f F ∧ IsLam σ F tl ∧ sp tl H1 Q
def tCalLam (TL : List (Addr × Str)) (sp : (XK → Hp → VK → Prop) → Hp → VK → Prop) (t : XK → TE) : TE := fun σ H Q => Tabs TL H ∧ ∀ H1, ExtN H H1 → Tabs TL H1 → sp (fun E H' Q' => t E σ H' Q') H1 Q
section
variable {X : Cx} {x a : Str} {k k' j m : Nat} {sp : (XK → Hp → VK → Prop) → Hp → VK → Prop} {IsLam : L2.St → LF → (XK → Hp → VK → Prop) → Prop} {e : Expr} {ta : TA} {p lpos pos : Pos} {TL : List (Addr × Str)} {c P : Addr} {params : Arguments} {body : Expr} {scope : Scope} {dk : Bool} {t : XK → TE}
theorem pe_calA (C : CalA X.prog X.w X.K X.mg X.base x a k j sp) (acts : ∀ (pins : List (Addr × Obj)) (σ : L2.St) (H : Hp) (s : Shared) (f : Addr) (F : LF) (tl : XK → Hp → VK → Prop), Inv X pins σ H s → LamAt H f F → IsLam σ F tl → Act X.prog X.w X.K X.mg X.base j (frs X.stack) s.heap H f F tl)
    (hr : Room k' X.A) (hk : k ≤ k') (hg : Gl X x) (ha : PA X [e] ta) (hdb : (x == ("__debug__" : Str)) = false := by decide) (hst : starEach [e] X.env = (false, eval e X.env) :: starEach [] X.env := by rfl) (hpl : (backTo pos (starEach [] X.env)).any (·.1) = false := by rfl) :
    PE X (.Call (.Name x p) [e] [] pos) (tCalA IsLam sp ta) := by
  obtain ⟨g, fd, F, hm, hkp, hb⟩ := C.ex
  refine ⟨fun pins s σ H Q I h => wpAny_Call_Name_kw (ld_glob I hg hm (PySem.W.callWith_K (h₀ := X.base) I.ok.mod.kin hkp (thn (ha.run pos pins s σ H _ I h) fun us s1 gg => ?_) hst hpl) hdb)⟩
  obtain ⟨vs, H1, J, r, f, L, tl, rfl, lam, il, q⟩ := gg
  obtain ⟨u, rfl, ru⟩ := vals1 r
  obtain rfl : u = Value.ref f := ru
  have b := hb s1 [.ref f] J.kIn rfl
  refine ⟨J.kIn, wpAny_call (codeAny_mono (F.run X.A X.stack s1 H1 ⟨[.ref f], []⟩ f L tl Q (hr.mono hk) J.env0 b (acts _ σ H1 s1 f L tl J lam il) lam q) fun res s2 g2 => ?_)⟩
  match res, g2 with
  | .ok (.ret u), g2 => exact J.after g2
  | .ok .next, g2 => exact (show False from g2).elim
  | .ok .brk, g2 => exact (show False from g2).elim
  | .ok .cont, g2 => exact (show False from g2).elim
  | .error e, g2 => exact (show False from g2).elim
/-- x(lambda: body) -/
theorem pe_calLam (C : CalA X.prog X.w X.K X.mg X.base x a k j sp) (hr : Room k' X.A) (hk : k ≤ k') (hg : Gl X x) (TB : TabB X.base X.mg c P) (hcode : X.env.code = .ref c) (hm : (P, X.env.qual ++ "<lambda>") ∈ TL) (hu : ∀ p ∈ TL, p.1 = P → p.2 = X.env.qual ++ "<lambda>")
    (L : LamL X.N X.env.scope scope) (B : LBind params scope dk) (hdef : DefOk params X.env dk) (hj : m + 1 ≤ j)
    (hbody : ∀ (A : Around) (outer : List Env) (s : Shared) (H : Hp) (E : XK) (f c' : Addr), Room m (A.deeper (lamEnv X scope s.heap.objs.size f c')) → PE (lamCx X A outer s H E scope f c') body (t E)) (hdb : (x == ("__debug__" : Str)) = false := by decide) :
    PE X (.Call (.Name x p) [.Lambda params body scope lpos] [] pos) (tCalLam TL sp t) := by
  have ha : PA X [.Lambda params body scope lpos] (tCons (tLam TL fun c' dv => ⟨X.env.qual ++ "<lambda>", params, body, scope, cloFrom X.env.cells scope.names [], c', dv, dk⟩) tNil) := pa_cons (pe_lam TB hcode hm hu L hdef) pa_nil
  have rule := pe_calA (p := p) (pos := pos) (k' := k') (IsLam := fun σ F tl => ∃ c' dv, F = ⟨X.env.qual ++ "<lambda>", params, body, scope, cloFrom X.env.cells scope.names [], c', dv, dk⟩ ∧ tl = fun E H' Q' => t E σ H' Q') C (fun pins σ H s f F tl I _ hF => ?_) hr hk hg ha hdb rfl rfl
  · exact ⟨fun pins s σ H Q I ⟨hT, h⟩ => rule.run pins s σ H Q I ⟨hT, fun f c' dv H1 e1 T1 lam => ⟨f, _, _, rfl, lam, ⟨c', dv, rfl, rfl⟩, h H1 e1 T1⟩⟩⟩
  · obtain ⟨c', dv, rfl, rfl⟩ := hF
    have act := act_of (k := m) (f := f) (c' := c') (dv := dv) (t := t) I L B fun A outer s H E => hbody A outer s H E f c'
    exact fun A outer s H Q E hr => act A outer s H Q E (hr.mono hj)
end
/-! ### a list of lambdas, walked -/
/-- one of these -/
def IsLamL (l : List ((Addr → Value → LF) × (XK → TE))) (σ : L2.St) (F : LF) (tl : XK → Hp → VK → Prop) : Prop := ∃ p ∈ l, ∃ c' dv, F = p.1 c' dv ∧ tl = fun E H' Q' => p.2 E σ H' Q'
inductive LamsOk (X : Cx) (TL : List (Addr × Str)) (m : Nat) : List Expr → List ((Addr → Value → LF) × (XK → TE)) → TA → Prop
  | nil : LamsOk X TL m [] [] tNil
  | cons {params : Arguments} {body : Expr} {scope : Scope} {pos : Pos} {dk : Bool} {t : XK → TE} {es : List Expr} {l : List ((Addr → Value → LF) × (XK → TE))} {tr : TA}
      (pe : PE X (.Lambda params body scope pos) (tLam TL fun c' dv => ⟨X.env.qual ++ "<lambda>", params, body, scope, cloFrom X.env.cells scope.names [], c', dv, dk⟩)) (L : LamL X.N X.env.scope scope) (B : LBind params scope dk)
      (hbody : ∀ (A : Around) (outer : List Env) (s : Shared) (H : Hp) (E : XK) (f c' : Addr), Room m (A.deeper (lamEnv X scope s.heap.objs.size f c')) → PE (lamCx X A outer s H E scope f c') body (t E)) (r : LamsOk X TL m es l tr) :
      LamsOk X TL m (.Lambda params body scope pos :: es) ((fun c' dv => ⟨X.env.qual ++ "<lambda>", params, body, scope, cloFrom X.env.cells scope.names [], c', dv, dk⟩, t) :: l)
        (tCons (tLam TL fun c' dv => ⟨X.env.qual ++ "<lambda>", params, body, scope, cloFrom X.env.cells scope.names [], c', dv, dk⟩) tr)
section
variable {X : Cx} {TL : List (Addr × Str)} {m j : Nat} {es : List Expr} {l : List ((Addr → Value → LF) × (XK → TE))} {t : TA}
theorem LamsOk.pa (h : LamsOk X TL m es l t) : PA X es t := by
  induction h with
  | nil => exact pa_nil
  | cons pe _ _ _ _ ih => exact pa_cons pe ih
theorem LamsOk.acts (h : LamsOk X TL m es l t) (hj : m + 1 ≤ j) : ∀ (pins : List (Addr × Obj)) (σ : L2.St) (H : Hp) (s : Shared) (f : Addr) (F : LF) (tl : XK → Hp → VK → Prop), Inv X pins σ H s → LamAt H f F → IsLamL l σ F tl → Act X.prog X.w X.K X.mg X.base j (frs X.stack) s.heap H f F tl := by
  intro pins σ H s f F tl I lam
  induction h with
  | nil => exact fun ⟨_, hp, _⟩ => nomatch hp
  | @cons params body scope pos dk t es l tr pe L B hbody r ih =>
    intro ⟨p, hp, c', dv, hF, ht⟩
    rcases List.mem_cons.mp hp with rfl | hp
    · subst hF ht
      have act := act_of (k := m) (f := f) (c' := c') (dv := dv) (t := t) I L B fun A outer s H E => hbody A outer s H E f c'
      exact fun A outer s H Q E hr => act A outer s H Q E (hr.mono hj)
    · exact ih ⟨p, hp, c', dv, hF, ht⟩
end
theorem ps_forLam {X : Cx} {TL : List (Addr × Str)} {m j : Nat} {es : List Expr} {l : List ((Addr → Value → LF) × (XK → TE))} {t : TA} {tg : Expr} {g : TG} {body : List Stmt} {tb : TS} {p1 pos : Pos} (hp : PassesOwn (model X.prog X.w) X.A X.env X.xe) (hg : PG X tg g) (hj : m + 1 ≤ j) (LL : LamsOk X TL m es l t)
    (hb : (∀ (pins : List (Addr × Obj)) (σ : L2.St) (H : Hp) (s : Shared) (f : Addr) (F : LF) (tl : XK → Hp → VK → Prop), Inv X pins σ H s → LamAt H f F → IsLamL l σ F tl → Act X.prog X.w X.K X.mg X.base j (frs X.stack) s.heap H f F tl) → PSs X body tb) (hc : X.calm = true := by rfl) :
    PS X (.For tg (.List es p1) body [] pos) (tFor (iList X.K (tLst t)) g tb) := ps_for hp hc (pi_list (pe_lst LL.pa)) hg (hb (LL.acts hj))
/-! ### the end -/
/-- what stands of the top's defs: their code objects, with empty tables -/
def TopTabs (q : Program) (K : PySem.W.Frag) (h : Heap) : Prop := ∀ (x : Str) (c P : Addr), ((recsOf q).find? fun e => e.name == x).isSome = true → PySem.W.tabIn K x = some (c, P) → PySem.W.CodeHd h c P ∧ h.get? P = some { cls := .none, data := .fields #[] }
theorem no_tab {K : PySem.W.Frag} {h : Heap} {P : Addr} (X : K.In h) (nt : PySem.W.noTabs K = true) (hP : h.get? P = some { cls := .none, data := .fields #[] }) : K.lookup P = none := by
  cases e : K.lookup P with
  | none => rfl
  | some o =>
    have z := List.all_eq_true.mp nt _ (PySem.W.mem_of_lookupK e)
    cases (X _ _ e).symm.trans hP
    cases z
theorem tabIn_of {K : PySem.W.Frag} {x : Str} {f c P : Addr} {oc e : Value} {od dd : Option Addr} {fd : FuncData} {osl sl : Array (Option Value)} {vs : Array Value} (h1 : PySem.W.nsIn K mainGlobals x = some (some (.ref f))) (h2 : K.lookup f = some ⟨oc, od, .func fd, osl⟩) (h3 : fd.code = .ref c) (h4 : K.lookup c = some ⟨e, dd, .fields vs, sl⟩) (h5 : vs[11]? = some (.ref P)) :
    PySem.W.tabIn K x = some (c, P) := by
  unfold PySem.W.tabIn
  rw [h1]
  simp only [h2, h3, h4, h5]
theorem walk_tabs {l : PySem.W.OpenLaw} {n k : Nat} {q : Program} {loose : List Str} {XP : (Str → Option Value) → Heap → Prop} {YP : World → Heap → Prop} {d : DefRec} {K : Params → PySem.W.Frag} {CX : World → CXT} {x : Str}
    (hn : l.most = some n) (hn2 : n ≤ sizeLine) (hdf : d.params.defaults = []) (hr : Room k callerA) (hY : ∀ (w : World) (h : Heap), YP w h → (K w.params).In h)
    (F : ∀ (w : World) (mg : Str → Option Value) (fa : Addr) (h : Heap), YP w h → (K w.params).In h → h.Ns mainGlobals mg → mg d.name = some (.ref fa) → TopTabs q (K w.params) h → LawAtS l w (K w.params) (CX w) k n x mg fa h)
    (hCX : ∀ (w : World) (H : Hp) (s : Shared) (e : Value) (s' : Shared), CX w [] H s (fun _ _ _ => False) e s' → False) :
    PySem.W.WalkO q loose XP YP l.row.toRowW d [] (fun f vs => PySem.call f vs) := by
  refine Att.attach_callB hn hdf fun w s₀ s₁ mg mb fa o pm cd doc a vs ns G Y _ _ _ hmg hobj hints hlen hbits hg => ?_
  have X := hY w _ Y
  obtain ⟨fd, cs, sp, hT, nT, C, hb, hsp, hF⟩ := F w mg fa _ Y X G.T.g hmg fun y c P hy ht => by
    obtain ⟨e, he⟩ := Option.isSome_iff_exists.mp hy
    exact PySem.W.tab_of G.T X he ht
  exact law_callTs X G.T.g G.T.b G.T.builtins G.T.nolimit hg hT nT C G.T.bmain hobj hints (Nat.le_trans hlen hn2) hr hF hb (fun H hH hS => hsp H a ns hlen hbits hH hS) fun H e s' => hCX w H s₁ e s'
abbrev lq (x : Str) : Str := x ++ ".<locals>." ++ "<lambda>"
/-- the tables of the defs that hold lambdas: name, code object, table -/
def tlOf (cn : List (Str × Addr × Addr)) : List (Addr × Str) := cn.map fun e => (e.2.2, lq e.1)
theorem tabs_start {cn : List (Str × Addr × Addr)} {H : Hp} (h : ∀ e ∈ cn, H e.2.2 = some (.tbl #[])) : Tabs (tlOf cn) H := fun p hp => by
  obtain ⟨e, he, rfl⟩ := List.mem_map.mp hp
  exact TabS.nil (h e he)
theorem hu_one {x : Str} {c P : Addr} : ∀ p ∈ tlOf [(x, c, P)], p.1 = P → p.2 = lq x := fun p hp _ => by
  rw [List.mem_singleton.mp hp]
theorem hu_two {x y : Str} {c d P R : Addr} (h : P ≠ R) : (∀ p ∈ tlOf [(x, c, P), (y, d, R)], p.1 = P → p.2 = lq x) ∧ ∀ p ∈ tlOf [(x, c, P), (y, d, R)], p.1 = R → p.2 = lq y := by
  refine ⟨fun p hp e => ?_, fun p hp e => ?_⟩
  · rcases List.mem_cons.mp hp with rfl | hp
    · rfl
    · rw [List.mem_singleton.mp hp] at e
      exact absurd e.symm h
  · rcases List.mem_cons.mp hp with rfl | hp
    · exact absurd e h
    · rw [List.mem_singleton.mp hp]
theorem law_at {l : PySem.W.OpenLaw} {w : World} {K : PySem.W.Frag} {CX : CXT} {k n : Nat} {x : Str} {mg : Str → Option Value} {fa : Addr} {h : Heap} {q : Program} {cn : List (Str × Addr × Addr)} {sp : Sp} (X : K.In h) (nt : PySem.W.noTabs K = true) (TT : TopTabs q K h)
    (finds : ((cn.map (·.1)).all fun y => ((recsOf q).find? fun e => e.name == y).isSome) = true)
    (start : ∀ (H : Hp) (a : Addr) (ns : List Int), ns.length ≤ n → (∀ e ∈ cn, H e.2.2 = some (.tbl #[])) → SqL K H a (ns.map V.int) → sp [.ref a] H (fun v _ => v = .bl true) fun _ _ _ => False)
    (all : (∀ e ∈ cn, PySem.W.tabIn K e.1 = some (e.2.1, e.2.2)) ∧ ∃ fd : FuncData, (∀ (s : Shared) (v : Value), BindsTo s fd ⟨[v], []⟩ [(x, v)]) ∧ ∀ base : Heap, K.In base → base.Ns mainGlobals mg → (∀ e ∈ cn, TabB base mg e.2.1 e.2.2) → FnOk l.prog w K mg base CX k fa fd [x] sp) :
    LawAtS l w K CX k n x mg fa h := by
  obtain ⟨ht, fd, hb, hF⟩ := all
  have each : ∀ p ∈ cn.map (·.2), PySem.W.CodeHd h p.1 p.2 ∧ h.get? p.2 = some { cls := .none, data := .fields #[] } := fun p hp => by
    obtain ⟨e, he, rfl⟩ := List.mem_map.mp hp
    exact TT e.1 _ _ (List.all_eq_true.mp finds _ (List.mem_map_of_mem he)) (ht e he)
  exact ⟨fd, cn.map (·.2), sp, fun p hp => (each p hp).2, fun p hp => no_tab X nt (each p hp).2, fun p hp => (each p hp).1, hb,
    fun H a ns h1 _ h3 h4 => start H a ns h1 (fun e he => h3 _ (List.mem_map_of_mem he)) h4, fun base h1 h2 h3 => hF base h1 h2 fun e he => h3 _ (List.mem_map_of_mem he)⟩
end SP

set_option maxHeartbeats 4000000
namespace SP
open PySem L2 Evl
/-! values of any kind, as far as they are drawn -/
/-- a number, a truth, a text or None -/
inductive Sc : V → Prop
  | int (i : Int) : Sc (.int i)
  | bl (b : Bool) : Sc (.bl b)
  | str (x : Str) : Sc (.str x)
  | non : Sc .non
/-- whether it is a whole number from lo to hi -/
def whV : V → Int → Int → Bool
  | .int v, lo, hi => decide (lo ≤ v) && decide (v ≤ hi)
  | _, _, _ => false
theorem whV_int {x : V} {lo hi : Int} (h : whV x lo hi = true) : ∃ v, x = .int v ∧ lo ≤ v ∧ v ≤ hi := by
  unfold whV at h
  split at h
  · rename_i v
    rw [Bool.and_eq_true, decide_eq_true_eq, decide_eq_true_eq] at h
    exact ⟨v, rfl, h.1, h.2⟩
  · cases h
/-- shares or counts as they are drawn -/
inductive Rw
  | lst (xs : List V)
  | tup (xs : List V)
  | non
def RowAt (H : Hp) (x : V) : Rw → Prop
  | .lst xs => ∃ a, x = .ref a ∧ H a = some (.lst xs)
  | .tup xs => ∃ a, x = .ref a ∧ H a = some (.tup xs)
  | .non => x = .non
def RwOk : Rw → Prop
  | .lst xs => xs.length ≤ 100 ∧ ∀ x ∈ xs, Sc x
  | .tup xs => xs.length ≤ 100
  | .non => True
theorem RowAt.exN {H H' : Hp} {x : V} {r : Rw} (h : RowAt H x r) (e : LamX.ExtN H H') : RowAt H' x r := by
  cases r with
  | lst xs => obtain ⟨a, h1, h2⟩ := h; exact ⟨a, h1, e _ _ h2 fun _ z => nomatch z⟩
  | tup xs => obtain ⟨a, h1, h2⟩ := h; exact ⟨a, h1, e _ _ h2 fun _ z => nomatch z⟩
  | non => exact h
theorem RowAt.ex {H H' : Hp} {x : V} {r : Rw} (h : RowAt H x r) (e : Ex H H') : RowAt H' x r := h.exN (LamX.ExtN.of e)
def sharesDue : Rw → Bool
  | .lst xs => (decide (1 ≤ xs.length) && decide (xs.length ≤ 40)) && xs.all fun x => whV x 1 1000000000000
  | _ => false
def countsDue : Rw → Nat → Bool
  | .lst xs, n => decide (xs.length = n) && xs.all fun x => whV x 0 1000000000000
  | _, _ => false
theorem ints_of {lo hi : Int} : ∀ {xs : List V}, (∀ x ∈ xs, whV x lo hi = true) → ∃ ns : List Int, xs = ns.map V.int ∧ ∀ n ∈ ns, lo ≤ n ∧ n ≤ hi
  | [], _ => ⟨[], rfl, fun _ h => nomatch h⟩
  | x :: xs, h => by
    obtain ⟨v, rfl, h1, h2⟩ := whV_int (h x List.mem_cons_self)
    obtain ⟨ns, rfl, h3⟩ := ints_of (xs := xs) fun y hy => h y (List.mem_cons_of_mem _ hy)
    refine ⟨v :: ns, rfl, fun n hn => ?_⟩
    rcases List.mem_cons.mp hn with e | hn
    · rw [e]; exact ⟨h1, h2⟩
    · exact h3 n hn
theorem sharesDue_ints {r : Rw} (h : sharesDue r = true) : ∃ ns : List Int, r = .lst (ns.map V.int) ∧ Shares ns := by
  cases r with
  | lst xs =>
    unfold sharesDue at h
    simp only [Bool.and_eq_true, decide_eq_true_eq, List.all_eq_true] at h
    obtain ⟨ns, rfl, h3⟩ := ints_of h.2
    rw [List.length_map] at h
    exact ⟨ns, rfl, h.1.1, h.1.2, h3⟩
  | tup xs => cases h
  | non => cases h
theorem countsDue_ints {r : Rw} {n : Nat} (h : countsDue r n = true) : ∃ cs : List Int, r = .lst (cs.map V.int) ∧ Counts cs n := by
  cases r with
  | lst xs =>
    unfold countsDue at h
    simp only [Bool.and_eq_true, decide_eq_true_eq, List.all_eq_true] at h
    obtain ⟨ns, rfl, h3⟩ := ints_of h.2
    rw [List.length_map] at h
    exact ⟨ns, rfl, h.1, h3⟩
  | tup xs => cases h
  | non => cases h
theorem sharesDue_lst (xs : List V) : sharesDue (.lst xs) = ((decide (1 ≤ xs.length) && decide (xs.length ≤ 40)) && xs.all fun x => whV x 1 1000000000000) := rfl
theorem countsDue_lst (xs : List V) (n : Nat) : countsDue (.lst xs) n = (decide (xs.length = n) && xs.all fun x => whV x 0 1000000000000) := rfl
theorem nb1 {b : Bool} (h : (!b) = true) : b = false := by cases b with | true => cases h | false => rfl
theorem nb0 {b : Bool} (h : (!b) = false) : b = true := by cases b with | true => rfl | false => cases h
/-- signs as they are drawn -/
inductive Sg
  | str (l : List Nat)
  | int (i : Int)
  | non
  | lst (xs : List V)
def SgAt (H : Hp) (x : V) : Sg → Prop
  | .str l => x = .str (tx l)
  | .int i => x = .int i
  | .non => x = .non
  | .lst xs => ∃ a, x = .ref a ∧ H a = some (.lst xs)
def SgOk : Sg → Prop
  | .str l => l.length ≤ 100
  | _ => True
theorem SgAt.ex {H H' : Hp} {x : V} {g : Sg} (h : SgAt H x g) (e : Ex H H') : SgAt H' x g := by
  cases g with
  | lst xs => obtain ⟨a, h1, h2⟩ := h; exact ⟨a, h1, e _ _ h2⟩
  | _ => exact h
def sgDue : Sg → Bool
  | .str l => (decide (1 ≤ l.length) && decide (l.length ≤ 40)) && (decide l.Nodup && l.all fun c => decide (32 ≤ c) && decide (c ≤ 126))
  | _ => false
theorem sgDue_iff {l : List Nat} : sgDue (.str l) = true ↔ Signs l := by
  unfold sgDue Signs
  simp only [Bool.and_eq_true, decide_eq_true_eq, List.all_eq_true]
  exact ⟨fun h => ⟨h.1.1, h.1.2, h.2.1, h.2.2⟩, fun h => ⟨⟨h.1, h.2.1⟩, h.2.2.1, h.2.2.2⟩⟩
/-- whether a book is due -/
def bookDue : Sg → V → V → Bool
  | .str l, sz, cp => sgDue (.str l) && (whV sz 1 99 && whV cp (l.length : Int) 1000000)
  | _, _, _ => false
theorem bookDue_ok {g : Sg} {x sz cp : V} {H : Hp} (hx : SgAt H x g) (h : bookDue g sz cp = true) : ∃ B : Bk, g = .str B.ss ∧ x = .str (tx B.ss) ∧ sz = .int (B.size : Int) ∧ cp = .int B.cap ∧ BookOk B := by
  cases g with
  | str l =>
    unfold bookDue at h
    rw [Bool.and_eq_true, Bool.and_eq_true] at h
    obtain ⟨h1, h2, h3⟩ := h
    obtain ⟨z, rfl, z1, z2⟩ := whV_int h2
    obtain ⟨c, rfl, c1, c2⟩ := whV_int h3
    exact ⟨⟨l, z.toNat, c⟩, rfl, hx, congrArg V.int (by show z = ((z.toNat : Nat) : Int); omega), rfl, sgDue_iff.mp h1, by show 1 ≤ z.toNat; omega, by show z.toNat ≤ 99; omega, c1, c2⟩
  | _ => cases h
theorem ty_bl {K : PySem.W.Frag} {H : Hp} {b : Bool} : TyX K H (.bl b) (.type "bool") := .base (.bl b)
theorem ty_non {K : PySem.W.Frag} {H : Hp} : TyX K H .non (.type "NoneType") := .base .non
/-! expressions told by what holds of their value -/
section
variable {K : PySem.W.Frag} {σ : L2.St} {H H' : Hp} {ta tb te : TE} {tr : TA} {P : V → Hp → Prop}
def EvP (te : TE) (σ : L2.St) (H : Hp) (P : V → Hp → Prop) : Prop := ∀ H1, Ex H H1 → ∀ Q : VK, (∀ v H2, Ex H1 H2 → P v H2 → Q v H2) → te σ H1 Q
def EvPA (ta : TA) (σ : L2.St) (H : Hp) (P : V → Hp → Prop) (n : Nat) : Prop := ∀ H1, Ex H H1 → ∀ Q : List V → Hp → Prop, (∀ vs H2, Ex H1 H2 → vs.length = n → (∀ x ∈ vs, P x H2) → Q vs H2) → ta σ H1 Q
def Mono (P : V → Hp → Prop) : Prop := ∀ x H H', Ex H H' → P x H → P x H'
theorem ep_ev {v : V} (h : Ev te σ H v) (hp : ∀ H2, Ex H H2 → P v H2) : EvP te σ H P := fun H1 e1 Q q => h H1 e1 _ fun H2 e2 => q v H2 e2 (hp H2 (e1.trans e2))
theorem ep_el {xs : List V} (h : EvL te σ H xs) (hp : ∀ p H2, Ex H H2 → H2 p = some (.lst xs) → P (.ref p) H2) : EvP te σ H P := fun H1 e1 Q q => h H1 e1 _ fun p H2 _ e2 h2 => q _ H2 e2 (hp p H2 (e1.trans e2) h2)
theorem epa_nil : EvPA tNil σ H P 0 := fun H1 _ Q q => q [] H1 (Ex.refl H1) rfl fun _ h => nomatch h
theorem epa_cons {n : Nat} (m : Mono P) (h : EvP ta σ H P) (hr : EvPA tr σ H P n) : EvPA (tCons ta tr) σ H P (n + 1) := fun H1 e1 Q q =>
  h H1 e1 _ fun v H2 e2 hv => hr H2 (e1.trans e2) _ fun vs H3 e3 hl hs => q (v :: vs) H3 (e2.trans e3) (congrArg Nat.succ hl) fun x hx => by
    rcases List.mem_cons.mp hx with e | hx
    · rw [e]; exact m _ _ _ e3 hv
    · exact hs x hx
/-- [..][i] -/
theorem ep_ix {n : Nat} {i : Int} (m : Mono P) (h : EvPA tr σ H P n) (hn : n ≤ 100) (hb : Ev tb σ H (.int i)) (h0 : 0 ≤ i) (h1 : i < (n : Int)) : EvP (tOp (rIxL K) (tLst tr) tb) σ H P := fun H1 e1 Q q =>
  h H1 e1 _ fun vs H2 e2 hl hs => ⟨by rw [hl]; exact sz_of (by omega), fun p hp => hb _ ((e1.trans e2).trans (Ex.new hp)) _ fun H3 e3 => by
    have hv : (upd H2 p (.lst vs)) p = some (.lst vs) := upd_same
    have hi : i.toNat < vs.length := by omega
    have hg : atI vs i = some vs[i.toNat] := by
      have e0 : ((i.toNat : Nat) : Int) = i := by omega
      have := atI_nat (List.getElem?_eq_getElem hi)
      rwa [e0] at this
    have e23 := (Ex.new hp).trans e3
    have := rv_ixL (K := K) (H := H3) (sq_of (e3 _ _ hv)) hg
    exact this H3 (Ex.refl _) _ fun H4 e4 => q _ H4 ((e2.trans e23).trans e4) (m _ _ _ (e23.trans e4) (hs _ (List.getElem_mem hi)))⟩
/-- a list and a new one -/
theorem el_catN {a : Addr} {xs zs : List V} (ha : Ev ta σ H (.ref a)) (hl : H a = some (.lst xs)) (hb : EvL tb σ H zs) (hz : xs.length + zs.length ≤ 100000) : EvL (tOp rCat ta tb) σ H (xs ++ zs) := fun H1 e1 Q q =>
  ha H1 e1 _ fun H2 e2 => hb H2 (e1.trans e2) _ fun p H3 _ e3 h3 => ⟨a, p, xs, zs, rfl, rfl, e3 _ _ (e2 _ _ (e1 _ _ hl)), h3, sz_of hz, fun r hr => q r _ (fresh_back (e2.trans e3) hr) ((e2.trans e3).trans (Ex.new hr)) upd_same⟩
theorem s_retP {D : Ends} (h : EvP te σ H P) (k : ∀ v H2, Ex H H2 → P v H2 → D.rt v H2) : tRet te D σ H := h H (Ex.refl _) _ k
/-- tuple(xs) of a list -/
theorem ep_tuple {xs : List V} {p : Addr} (h : Ev ta σ H (.ref p)) (hs : SqL K H p xs) (hp : ∀ q H2, Ex H H2 → H2 q = some (.tup xs) → P (.ref q) H2) :
    EvP (tCB (fun xs H Q => ∃ p ys, xs = [.ref p] ∧ ((SqL K H p ys ∧ ∀ l, H l = none → Q (.ref l) (upd H l (.tup ys))) ∨ (SqT K H p ys ∧ Q (.ref p) H))) (tCons ta tNil)) σ H P := fun H1 e1 Q q =>
  h H1 e1 _ fun H2 e2 => ⟨p, xs, rfl, Or.inl ⟨ex_l (e1.trans e2) hs, fun l hl => q _ _ (e2.trans (Ex.new hl)) (hp l _ ((e1.trans e2).trans (Ex.new hl)) upd_same)⟩⟩
end
theorem cutV_mem {xs : List V} {a b : Option Int} {x : V} (h : x ∈ cutV xs a b) : x ∈ xs := List.mem_of_mem_drop (List.mem_of_mem_take h)
def SgP : V → Hp → Prop := fun x H => ∃ g, SgAt H x g ∧ SgOk g
def RwP : V → Hp → Prop := fun x H => ∃ r, RowAt H x r ∧ RwOk r
theorem sgP_mono : Mono SgP := fun x H H' e ⟨g, h1, h2⟩ => ⟨g, h1.ex e, h2⟩
theorem rwP_mono : Mono RwP := fun x H H' e ⟨r, h1, h2⟩ => ⟨r, h1.ex e, h2⟩
/-- for x in [three lambdas] -/
theorem q_forLams3 {K : PySem.W.Frag} {TL : List (Addr × Str)} {F1 F2 F3 : Addr → Value → LF} {j : Nat} {tu tz : TS} {D : Ends} {σ : L2.St} {H : Hp} (hT : LamX.Tabs TL H)
    (k : ∀ (f1 f2 f3 c1 c2 c3 : Addr) (d1 d2 d3 : Value) (p : Addr) (H1 : Hp), LamX.ExtN H H1 → LamX.Tabs TL H1 → LamAt H1 f1 (F1 c1 d1) → LamAt H1 f2 (F2 c2 d2) → LamAt H1 f3 (F3 c3 d3) → H1 p = some (.lst [.ref f1, .ref f2, .ref f3]) →
      ∃ Pv : Nat → L2.St → Hp → Prop, (∀ H2, Ex H1 H2 → Pv 0 σ H2) ∧ (∀ i σ' H', Pv i σ' H' → H' p = some (.lst [.ref f1, .ref f2, .ref f3])) ∧ (∀ i x σ' H', ([V.ref f1, .ref f2, .ref f3] : List V)[i]? = some x → Pv i σ' H' → tu { D with nx := Pv (i + 1), ct := Pv (i + 1), bk := tz D } (σ'.set j (some x)) H') ∧
        ∀ σ' H', Pv 3 σ' H' → tz D σ' H') :
    tSeq (tFor (iList K (tLst (tCons (tLam TL F1) (tCons (tLam TL F2) (tCons (tLam TL F3) tNil))))) (gName j) tu) tz D σ H := by
  refine And.intro hT fun f1 c1 d1 H1 n1 T1 l1 => And.intro T1 fun f2 c2 d2 H2 n2 T2 l2 => And.intro T2 fun f3 c3 d3 H3 n3 T3 l3 => And.intro (show 3 ≤ sizeLine from sz_of (by decide)) fun p hp => ?_
  have new : LamX.ExtN H3 (upd H3 p (.lst [.ref f1, .ref f2, .ref f3])) := LamX.ExtN.of (Ex.new hp)
  obtain ⟨Pv, h0, hl, hs, hd⟩ := k f1 f2 f3 c1 c2 c3 d1 d2 d3 p _ (((n1.trans n2).trans n3).trans new) (T3.ext (Ex.new hp)) ((((l1.ext n2).ext n3)).ext new) ((l2.ext n3).ext new) (l3.ext new) upd_same
  exact q_forLn (K := K) (tl := fun σ H Q => Q (.ref p) H) (tu := tu) (tz := tz) (D := D) (fun H1 _ Q q => q H1 (Ex.refl _)) (sq_of upd_same) Pv h0 (fun i σ' H' _ h => sq_of (hl i σ' H' h)) hs hd
end SP

set_option maxHeartbeats 4000000
namespace SP
open PySem L2 Evl
open LamX (ExtN Tabs TabS)
/-! where a packer or an unpacker stands, told as data -/
def standD (s : LS) : PySem.W.T3 (List Int) (List Str) Str := ⟨s.ns, wz (HF.codes s.ns), tx s.ws⟩
def StandAt (H : Hp) (t : Addr) (s : LS) : Prop := ∃ c1 c2, H t = some (.tup [.ref c1, .ref c2, .str (tx s.ws)]) ∧ H c1 = some (.lst (s.ns.map V.int)) ∧ H c2 = some (.lst (wv (HF.codes s.ns)))
theorem is_trip {K : PySem.W.Frag} {H : Hp} {α β γ : Type} [DecidableEq α] [PySem.W.Datum α] [DecidableEq β] [PySem.W.Datum β] [DecidableEq γ] [PySem.W.Datum γ] {a : Addr} {v w u : V} {x : α} {y : β} {z : γ} (h : SqT K H a [v, w, u]) (h1 : Is K H v x) (h2 : Is K H w y) (h3 : Is K H u z) :
    Is K H (.ref a) (⟨x, y, z⟩ : PySem.W.T3 α β γ) := .tup h (.cons h1 (.cons h2 (.cons h3 .nil)))
theorem StandAt.is {K : PySem.W.Frag} {H : Hp} {t : Addr} {s : LS} (h : StandAt H t s) : Is K H (.ref t) (standD s) := by
  obtain ⟨c1, c2, h0, h1, h2⟩ := h
  exact is_trip (st_of h0) (is_ints (sq_of h1)) (is_words (sq_of h2)) (is_str _)
theorem StandAt.exN {H H' : Hp} {t : Addr} {s : LS} (h : StandAt H t s) (e : ExtN H H') : StandAt H' t s := by
  obtain ⟨c1, c2, h0, h1, h2⟩ := h
  exact ⟨c1, c2, e _ _ h0 (fun _ z => nomatch z), e _ _ h1 (fun _ z => nomatch z), e _ _ h2 (fun _ z => nomatch z)⟩
theorem StandAt.ex {H H' : Hp} {t : Addr} {s : LS} (h : StandAt H t s) (e : Ex H H') : StandAt H' t s := h.exN (ExtN.of e)
theorem StandAt.exS {H H' : Hp} {t : Addr} {s : LS} {ms : List Addr} (h : StandAt H t s) (e : ExS ms H H') (i : InsAt H ms) : StandAt H' t s := by
  obtain ⟨c1, c2, h0, h1, h2⟩ := h
  refine ⟨c1, c2, e _ _ (fun hm => ?_) h0, e _ _ (i.not h1) h1, e _ _ (i.not h2) h2⟩
  obtain ⟨C, dx, fs, h⟩ := i _ hm
  cases h0.symm.trans h
theorem ins_other {H : Hp} {ms : List Addr} {a : Addr} {o : HO} (i : InsAt H ms) (h : H a = some o) (n : ∀ C dx fs, o ≠ .ins C dx fs) : a ∉ ms := fun hm => by
  obtain ⟨C, dx, fs, h'⟩ := i a hm
  rw [h] at h'
  exact n _ _ _ (Option.some.inj h')
theorem tabs_exS {TL : List (Addr × Str)} {H H' : Hp} {ms : List Addr} (h : Tabs TL H) (e : ExS ms H H') (i : InsAt H ms) : Tabs TL H' := fun p hp => by
  obtain ⟨ps, h1, h2, h3⟩ := h p hp
  refine ⟨ps, e _ _ (ins_other i h1 fun _ _ _ z => nomatch z) h1, h2, fun pos cv hc => ?_⟩
  obtain ⟨c, e1, e2⟩ := h3 pos cv hc
  refine ⟨c, e1, e _ _ (ins_other i e2 fun _ _ _ z => ?_) e2⟩
  unfold LamX.CodeO at z
  cases z
theorem BookAt.exN {mg : Str → Option Value} {H H' : Hp} {b : Addr} {B : Bk} (h : BookAt mg H b B) (e : ExtN H H') : BookAt mg H' b B := by
  obtain ⟨dx, h⟩ := h
  exact ⟨dx, e _ _ h (fun _ z => nomatch z)⟩
theorem LrnV.exN {mg : Str → Option Value} {H H' : Hp} {l b : Addr} {s : LS} {av : List Addr} (h : LrnV mg H l b s av) (e : ExtN H H') : LrnV mg H' l b s av := by
  obtain ⟨dx, sh, wd, h1, h2, h3, h4⟩ := h
  exact ⟨dx, sh, wd, e _ _ h1 (fun _ z => nomatch z), e _ _ h2 (fun _ z => nomatch z), e _ _ h3 (fun _ z => nomatch z), h4⟩
/-- what was there stays but for the tables, though what is new (ms) is changed -/
theorem extN_exS {H0 H H' : Hp} {ms : List Addr} (h : ExtN H0 H) (e : ExS ms H H') (n : ∀ a ∈ ms, H0 a = none) : ExtN H0 H' := fun a o ha ht => e _ _ (fun hm => by rw [n a hm] at ha; cases ha) (h a o ha ht)
section
variable {σ : L2.St} {H : Hp} {te : TE} {tr : TA} {Q : List V → Hp → Prop}
theorem er_tup {R : VK} (h : tr σ H fun xs H1 => xs.length ≤ sizeLine ∧ ∀ p, H1 p = none → R (.ref p) (upd H1 p (.tup xs))) : tTup tr σ H R := h
theorem er_consL {xs : List V} (h : EvL te σ H xs) (k : ∀ p H1, H p = none → Ex H H1 → H1 p = some (.lst xs) → tr σ H1 fun vs H2 => Q (.ref p :: vs) H2) : tCons te tr σ H Q := h H (Ex.refl _) _ k
theorem er_consV {v : V} (h : Ev te σ H v) (k : ∀ H1, Ex H H1 → tr σ H1 fun vs H2 => Q (v :: vs) H2) : tCons te tr σ H Q := h H (Ex.refl _) _ k
end
end SP

set_option maxHeartbeats 4000000
namespace SP
open PySem L2 Evl
open LamX (ExtN Tabs TabS)
/-! tests whose values come with a change of what stands -/
/-- te evaluates to v, behind which G holds -/
def EvG (te : TE) (σ : L2.St) (H : Hp) (v : V) (G : Hp → Prop) : Prop := ∀ Q : VK, (∀ H2, G H2 → Q v H2) → te σ H Q
section
variable {K : PySem.W.Frag} {σ : L2.St} {H : Hp} {ta tb te : TE} {t u : TT} {tu tz : TS} {D : Ends} {x y v w : V} {G : Hp → Prop}
theorem q_whenG {tw : TE} (h : EvG te σ H v G) (hw : ∀ H2, G H2 → Ev tw σ H2 w) (hs : scal v w = true) (e : v = w) (k : ∀ H2 H3, G H2 → Ex H2 H3 → tz D σ H3) : tSeq (tIfS (tTest (tOp rNe te tw)) tu tNext) tz D σ H :=
  h _ fun H2 g => hw H2 g H2 (Ex.refl _) _ fun H3 e3 => And.intro hs (Exists.intro (!decide (v = w)) (And.intro rfl (by
    have hd : (!decide (v = w)) = false := by rw [decide_eq_true e]; rfl
    rw [hd]
    exact k H2 H3 g e3)))
/-- the first of two tests says no -/
theorem q_orE (h1 : EvT t σ H false) (k : ∀ H1, Ex H H1 → tSeq (tIfS u tu tNext) tz D σ H1) : tSeq (tIfS (tOr t u) tu tNext) tz D σ H :=
  h1 H (Ex.refl _) _ fun H1 e1 => k H1 e1
theorem q_orG {tw : TE} (h : EvG te σ H v G) (hw : ∀ H2, G H2 → Ev tw σ H2 w) (hs : scal v w = true) (e : v = w) (k : ∀ H2 H3, G H2 → Ex H2 H3 → tSeq (tIfS u tu tNext) tz D σ H3) : tSeq (tIfS (tOr (tTest (tOp rNe te tw)) u) tu tNext) tz D σ H :=
  h _ fun H2 g => hw H2 g H2 (Ex.refl _) _ fun H3 e3 => And.intro hs (Exists.intro (!decide (v = w)) (And.intro rfl (by
    have hd : (!decide (v = w)) = false := by rw [decide_eq_true e]; rfl
    rw [hd]
    exact k H2 H3 g e3)))
/-- a text ahead of what comes with a change -/
theorem eg_addT {a b : List Nat} (ha : Ev ta σ H (.str (tx a))) (hb : ∀ H1, Ex H H1 → EvG tb σ H1 (.str (tx b)) G) (hz : a.length + b.length ≤ 90000) : EvG (tOp (fun x y H Q => ∃ i j, x = .str i ∧ y = .str j ∧ i.length + j.length ≤ sizeLine ∧ Q (.str (i ++ j)) H) ta tb) σ H (.str (tx (a ++ b))) G := fun Q q =>
  ha H (Ex.refl _) _ fun H1 e1 => hb H1 e1 _ fun H2 g => ⟨tx a, tx b, rfl, rfl, by rw [tx_len, tx_len]; exact sz_of (by omega), by rw [tx_app]; exact q H2 g⟩
theorem s_retAndG {tb tw : TE} {b : Bool} (h : EvG te σ H v G) (hw : ∀ H2, G H2 → Ev tw σ H2 w) (hs : scal v w = true) (e : v = w) (hb : ∀ H2 H3, G H2 → Ex H2 H3 → Ev tb σ H3 (.bl b)) (k : ∀ H2 H3, G H2 → Ex H2 H3 → D.rt (.bl b) H3) : tRet (tAndV (tOp rEq te tw) tb) D σ H :=
  h _ fun H2 g => hw H2 g H2 (Ex.refl _) _ fun H3 e3 => And.intro hs (Exists.intro (decide (v = w)) (And.intro rfl (by
    rw [decide_eq_true e]
    exact hb H2 H3 g e3 H3 (Ex.refl _) _ fun H4 e4 => k H2 H4 g (e3.trans e4))))
end
/-- from the middle of a text's bits to their end, whatever stands behind -/
theorem Fol.rest {B : Bk} (hB : BookOk B) {s : LS} (hs : s.Ok B) {ts w r : List Nat} (hm : ∀ c ∈ ts, c ∈ B.ss) (hw : WayOk B s ts w) (e : w ++ r = packF B s ts) (v : List Nat) : ∃ s', Fol B s ts.length w (r ++ v) ts s' 0 [] v := by
  cases ts with
  | nil =>
    have hw : w = [] := hw
    subst hw
    have e : r = [] := e
    subst e
    exact ⟨s, .done⟩
  | cons c ts =>
    obtain ⟨u, hu⟩ := hw
    have hc := hm c List.mem_cons_self
    have hm2 : ∀ d ∈ ts, d ∈ B.ss := fun d hd => hm d (List.mem_cons_of_mem _ hd)
    rw [packF_cons, hu, List.append_assoc] at e
    have e := List.append_cancel_left e
    subst e
    rw [List.append_assoc]
    exact ⟨_, Fol.code hs hc (Fol.whole hB (LS.step_ok hB hs) hm2 v) u w hu⟩
end SP

namespace SP
open PySem L2 Evl
def top (i : Nat) : Stmt := PySem.Challenge.pw_sharepack_k10_refused_bits.main.body.getD i (.Pass ⟨0, 0, 0, 0⟩)
abbrev s_is_whole : Stmt := top 12
theorem sc_is_whole : FnScope ["value", "low", "high"] ["value", "low", "high"] (defScope s_is_whole) := ⟨rfl, rfl, rfl, by decide +kernel, rfl, by decide +kernel, by decide +kernel⟩
abbrev s_check_shares : Stmt := top 17
theorem sc_check_shares : FnScope ["shares", "share"] ["shares"] (defScope s_check_shares) := ⟨rfl, rfl, rfl, by decide +kernel, rfl, by decide +kernel, by decide +kernel⟩
abbrev s_check_counts : Stmt := top 18
theorem sc_check_counts : FnScope ["counts", "many", "count"] ["counts", "many"] (defScope s_check_counts) := ⟨rfl, rfl, rfl, by decide +kernel, rfl, by decide +kernel, by decide +kernel⟩
abbrev s_check_cap : Stmt := top 19
theorem sc_check_cap : FnScope ["cap", "many"] ["cap", "many"] (defScope s_check_cap) := ⟨rfl, rfl, rfl, by decide +kernel, rfl, by decide +kernel, by decide +kernel⟩
abbrev s_counted : Stmt := top 20
theorem sc_counted : FnScope ["signs", "block", "sign"] ["signs", "block"] (defScope s_counted) := ⟨rfl, rfl, rfl, by decide +kernel, rfl, by decide +kernel, by decide +kernel⟩
abbrev s_learnt : Stmt := top 21
theorem sc_learnt : FnScope ["shares", "counts", "cap", "grown", "share", "count"] ["shares", "counts", "cap"] (defScope s_learnt) := ⟨rfl, rfl, rfl, by decide +kernel, rfl, by decide +kernel, by decide +kernel⟩
abbrev s_pairs : Stmt := top 23
theorem sc_pairs : FnScope ["shares", "free", "made", "least", "first", "following", "other", "number", "share"] ["shares"] (defScope s_pairs) := ⟨rfl, rfl, rfl, by decide +kernel, rfl, by decide +kernel, by decide +kernel⟩
abbrev s_codes : Stmt := top 24
theorem sc_codes : FnScope ["shares", "made", "words", "at", "first", "other", "way"] ["shares"] (defScope s_codes) := ⟨rfl, rfl, rfl, by decide +kernel, rfl, by decide +kernel, by decide +kernel⟩
abbrev s_check_text : Stmt := top 27
theorem sc_check_text : FnScope ["signs", "text", "sign"] ["signs", "text"] (defScope s_check_text) := ⟨rfl, rfl, rfl, by decide +kernel, rfl, by decide +kernel, by decide +kernel⟩
abbrev s_check_bits : Stmt := top 28
theorem sc_check_bits : FnScope ["bits", "bit"] ["bits"] (defScope s_check_bits) := ⟨rfl, rfl, rfl, by decide +kernel, rfl, by decide +kernel, by decide +kernel⟩
abbrev s_Learner___init__ : Stmt := inClass (top 29) 0
theorem sc_Learner___init__ : FnScope ["self", "book"] ["self", "book"] (defScope s_Learner___init__) := ⟨rfl, rfl, rfl, by decide +kernel, rfl, by decide +kernel, by decide +kernel⟩
abbrev s_Learner_took : Stmt := inClass (top 29) 1
theorem sc_Learner_took : FnScope ["self", "sign"] ["self", "sign"] (defScope s_Learner_took) := ⟨rfl, rfl, rfl, by decide +kernel, rfl, by decide +kernel, by decide +kernel⟩
abbrev s_Learner__learn : Stmt := inClass (top 29) 2
theorem sc_Learner__learn : FnScope ["self", "counts"] ["self"] (defScope s_Learner__learn) := ⟨rfl, rfl, rfl, by decide +kernel, rfl, by decide +kernel, by decide +kernel⟩
abbrev s_Learner_held : Stmt := inClass (top 29) 3
theorem sc_Learner_held : FnScope ["self"] ["self"] (defScope s_Learner_held) := ⟨rfl, rfl, rfl, by decide +kernel, rfl, by decide +kernel, by decide +kernel⟩
abbrev s_Learner_go_back : Stmt := inClass (top 29) 4
theorem sc_Learner_go_back : FnScope ["self", "held"] ["self", "held"] (defScope s_Learner_go_back) := ⟨rfl, rfl, rfl, by decide +kernel, rfl, by decide +kernel, by decide +kernel⟩
abbrev s_Packer___init__ : Stmt := inClass (top 30) 0
theorem sc_Packer___init__ : FnScope ["self", "book"] ["self", "book"] (defScope s_Packer___init__) := ⟨rfl, rfl, rfl, by decide +kernel, rfl, by decide +kernel, by decide +kernel⟩
abbrev s_Packer_put : Stmt := inClass (top 30) 1
theorem sc_Packer_put : FnScope ["self", "part", "bits", "sign"] ["self", "part"] (defScope s_Packer_put) := ⟨rfl, rfl, rfl, by decide +kernel, rfl, by decide +kernel, by decide +kernel⟩
abbrev s_Unpacker___init__ : Stmt := inClass (top 31) 0
theorem sc_Unpacker___init__ : FnScope ["self", "book", "many"] ["self", "book", "many"] (defScope s_Unpacker___init__) := ⟨rfl, rfl, rfl, by decide +kernel, rfl, by decide +kernel, by decide +kernel⟩
abbrev s_Unpacker_put : Stmt := inClass (top 31) 1
theorem sc_Unpacker_put : FnScope ["self", "bits", "held", "left", "way", "known", "used"] ["self", "bits"] (defScope s_Unpacker_put) := ⟨rfl, rfl, rfl, by decide +kernel, rfl, by decide +kernel, by decide +kernel⟩
abbrev s_Unpacker__follow : Stmt := inClass (top 31) 2
theorem sc_Unpacker__follow : FnScope ["self", "bits", "known", "used"] ["self", "bits"] (defScope s_Unpacker__follow) := ⟨rfl, rfl, rfl, by decide +kernel, rfl, by decide +kernel, by decide +kernel⟩
abbrev s_Unpacker__arrive : Stmt := inClass (top 31) 3
theorem sc_Unpacker__arrive : FnScope ["self", "sign"] ["self"] (defScope s_Unpacker__arrive) := ⟨rfl, rfl, rfl, by decide +kernel, rfl, by decide +kernel, by decide +kernel⟩
abbrev s_pack : Stmt := top 32
theorem sc_pack : FnScope ["book", "text"] ["book", "text"] (defScope s_pack) := ⟨rfl, rfl, rfl, by decide +kernel, rfl, by decide +kernel, by decide +kernel⟩
abbrev s_unpack : Stmt := top 33
theorem sc_unpack : FnScope ["book", "bits", "many", "unpacker", "text"] ["book", "bits", "many"] (defScope s_unpack) := ⟨rfl, rfl, rfl, by decide +kernel, rfl, by decide +kernel, by decide +kernel⟩
abbrev s_check_signs : Stmt := top 36
theorem sc_check_signs : FnScope ["signs", "sign"] ["signs"] (defScope s_check_signs) := ⟨rfl, rfl, rfl, by decide +kernel, rfl, by decide +kernel, by decide +kernel⟩
abbrev s_Book___init__ : Stmt := inClass (top 37) 0
theorem sc_Book___init__ : FnScope ["self", "signs", "size", "cap"] ["self", "signs", "size", "cap"] (defScope s_Book___init__) := ⟨rfl, rfl, rfl, by decide +kernel, rfl, by decide +kernel, by decide +kernel⟩
abbrev s_report : Stmt := top 39
theorem sc_report : FnScope ["book", "text", "packer", "rows", "at", "shares"] ["book", "text"] (defScope s_report) := ⟨rfl, rfl, rfl, by decide +kernel, rfl, by decide +kernel, by decide +kernel⟩
abbrev s_written : Stmt := top 40
theorem sc_written : FnScope ["book", "text"] ["book", "text"] (defScope s_written) := ⟨rfl, rfl, rfl, by decide +kernel, rfl, by decide +kernel, by decide +kernel⟩
abbrev s_cell_at : Stmt := top 42
theorem sc_cell_at : FnScope ["_law_script", "_law_k"] ["_law_script", "_law_k"] (defScope s_cell_at) := ⟨rfl, rfl, rfl, by decide +kernel, rfl, by decide +kernel, by decide +kernel⟩
abbrev s_many_by : Stmt := top 43
theorem sc_many_by : FnScope ["_law_cell"] ["_law_cell"] (defScope s_many_by) := ⟨rfl, rfl, rfl, by decide +kernel, rfl, by decide +kernel, by decide +kernel⟩
abbrev s_signs_by : Stmt := top 44
theorem sc_signs_by : FnScope ["_law_cell", "_law_many", "_law_some", "_law_step", "_law_k"] ["_law_cell", "_law_many"] (defScope s_signs_by) := ⟨rfl, rfl, rfl, by decide +kernel, rfl, by decide +kernel, by decide +kernel⟩
abbrev s_text_by : Stmt := top 45
theorem sc_text_by : FnScope ["_law_script", "_law_first", "_law_signs", "_law_size", "_law_more", "_law_cells", "_law_k", "_law_cell"] ["_law_script", "_law_first", "_law_signs", "_law_size"] (defScope s_text_by) := ⟨rfl, rfl, rfl, by decide +kernel, rfl, by decide +kernel, by decide +kernel⟩
abbrev s_book_by : Stmt := top 46
theorem sc_book_by : FnScope ["_law_script", "_law_many", "_law_signs", "_law_size", "_law_cap"] ["_law_script"] (defScope s_book_by) := ⟨rfl, rfl, rfl, by decide +kernel, rfl, by decide +kernel, by decide +kernel⟩
abbrev s_kinds : Stmt := top 47
theorem sc_kinds : FnScope ["_law_e", "_law_found"] ["_law_e"] (defScope s_kinds) := ⟨rfl, rfl, rfl, by decide +kernel, rfl, by decide +kernel, by decide +kernel⟩
abbrev s_told : Stmt := top 48
theorem sc_told : FnScope ["_law_call", "_law_found", "_law_e"] ["_law_call"] (defScope s_told) := ⟨rfl, rfl, rfl, by decide +kernel, rfl, by decide +kernel, by decide +kernel⟩
abbrev s_count_drawn : Stmt := top 49
theorem sc_count_drawn : FnScope ["_law_cell", "_law_many"] ["_law_cell", "_law_many"] (defScope s_count_drawn) := ⟨rfl, rfl, rfl, by decide +kernel, rfl, by decide +kernel, by decide +kernel⟩
abbrev s_count_due : Stmt := top 50
theorem sc_count_due : FnScope ["_law_thing"] ["_law_thing"] (defScope s_count_due) := ⟨rfl, rfl, rfl, by decide +kernel, rfl, by decide +kernel, by decide +kernel⟩
abbrev s_put_in : Stmt := top 51
theorem sc_put_in : FnScope ["_law_row", "_law_at", "_law_sign", "_law_k"] ["_law_row", "_law_at", "_law_sign"] (defScope s_put_in) := ⟨rfl, rfl, rfl, by decide +kernel, rfl, by decide +kernel, by decide +kernel⟩
abbrev s_stands : Stmt := top 52
theorem sc_stands : FnScope ["_law_found"] ["_law_found"] (defScope s_stands) := ⟨rfl, rfl, rfl, by decide +kernel, rfl, by decide +kernel, by decide +kernel⟩
abbrev s_goes_on : Stmt := top 53
theorem sc_goes_on : FnScope ["_law_book", "_law_text", "_law_bits", "_law_odd", "_law_at", "_law_packer", "_law_half", "_law_first", "_law_ahead", "_law_reader", "_law_cut", "_law_start", "_law_wrong"] ["_law_book", "_law_text", "_law_bits", "_law_odd", "_law_at"] (defScope s_goes_on) := ⟨rfl, rfl, rfl, by decide +kernel, rfl, by decide +kernel, by decide +kernel⟩
abbrev s_law : Stmt := top 54
theorem sc_law : FnScope ["_law_script", "_law_signs", "_law_size", "_law_cap", "_law_book", "_law_text", "_law_bits", "_law_odd", "_law_sign", "_law_at", "_law_way", "_law_count", "_law_more", "_law_wrong", "_law_due"] ["_law_script"] (defScope s_law) := ⟨rfl, rfl, rfl, by decide +kernel, rfl, by decide +kernel, by decide +kernel⟩
structure Txt (K : PySem.W.Frag) (mg : Str → Option Value) : Prop where
  b_ValueError : mg "ValueError" = none
  b_bool : mg "bool" = none
  b_enumerate : mg "enumerate" = none
  b_int : mg "int" = none
  b_isinstance : mg "isinstance" = none
  b_len : mg "len" = none
  b_list : mg "list" = none
  b_max : mg "max" = none
  b_range : mg "range" = none
  b_reversed : mg "reversed" = none
  b_str : mg "str" = none
  b_sum : mg "sum" = none
  b_zip : mg "zip" = none
  cl_Book : Cls K (cadr mg "Book")
  cl_Learner : Cls K (cadr mg "Learner")
  cl_Packer : Cls K (cadr mg "Packer")
  cl_Unpacker : Cls K (cadr mg "Unpacker")
  mc_BadBit : mg "BadBit" = some (.ref (cadr mg "BadBit"))
  mc_BadBook : mg "BadBook" = some (.ref (cadr mg "BadBook"))
  mc_BadCount : mg "BadCount" = some (.ref (cadr mg "BadCount"))
  mc_BadLine : mg "BadLine" = some (.ref (cadr mg "BadLine"))
  mc_BadShares : mg "BadShares" = some (.ref (cadr mg "BadShares"))
  mc_BadSign : mg "BadSign" = some (.ref (cadr mg "BadSign"))
  mc_Loose : mg "Loose" = some (.ref (cadr mg "Loose"))
  mc_PackError : mg "PackError" = some (.ref (cadr mg "PackError"))
  mc_Short : mg "Short" = some (.ref (cadr mg "Short"))
  na_Book_cap : NoAttr K (cadr mg "Book") "cap"
  na_Book_signs : NoAttr K (cadr mg "Book") "signs"
  na_Book_size : NoAttr K (cadr mg "Book") "size"
  na_Learner__book : NoAttr K (cadr mg "Learner") "_book"
  na_Learner_shares : NoAttr K (cadr mg "Learner") "shares"
  na_Learner_waits : NoAttr K (cadr mg "Learner") "waits"
  na_Learner_words : NoAttr K (cadr mg "Learner") "words"
  na_Packer__signs : NoAttr K (cadr mg "Packer") "_signs"
  na_Packer_learner : NoAttr K (cadr mg "Packer") "learner"
  na_Unpacker__signs : NoAttr K (cadr mg "Unpacker") "_signs"
  na_Unpacker__way : NoAttr K (cadr mg "Unpacker") "_way"
  na_Unpacker_learner : NoAttr K (cadr mg "Unpacker") "learner"
  na_Unpacker_left : NoAttr K (cadr mg "Unpacker") "left"
  g_GREATEST_CAP : ∃ u, mg "GREATEST_CAP" = some u ∧ RelV (.int 1000000) u
  g_GREATEST_SHARE : ∃ u, mg "GREATEST_SHARE" = some u ∧ RelV (.int 1000000000000) u
  g_LONGEST_BLOCK : ∃ u, mg "LONGEST_BLOCK" = some u ∧ RelV (.int 99) u
  g_LONGEST_TEXT : ∃ u, mg "LONGEST_TEXT" = some u ∧ RelV (.int 2000) u
  g_MOST_SHARES : ∃ u, mg "MOST_SHARES" = some u ∧ RelV (.int 40) u
  g_heapify : mg "heapify" = some (.builtin "_heapq.heapify")
  g_heappop : mg "heappop" = some (.builtin "_heapq.heappop")
  g_heappush : mg "heappush" = some (.builtin "_heapq.heappush")
  ex_BadBit : Err K mg "BadBit"
  ex_BadCount : Err K mg "BadCount"
  ex_BadSign : Err K mg "BadSign"
  ex_Loose : Err K mg "Loose"
  ex_Short : Err K mg "Short"
  xm_BadBit_BadBit : PySem.W.exmOne K (.ref (cadr mg "BadBit")) (.ref (cadr mg "BadBit")) = some true
  xm_BadBit_BadCount : PySem.W.exmOne K (.ref (cadr mg "BadBit")) (.ref (cadr mg "BadCount")) = some false
  xm_BadCount_BadCount : PySem.W.exmOne K (.ref (cadr mg "BadCount")) (.ref (cadr mg "BadCount")) = some true
  xm_BadSign_BadBit : PySem.W.exmOne K (.ref (cadr mg "BadSign")) (.ref (cadr mg "BadBit")) = some false
  xm_BadSign_BadCount : PySem.W.exmOne K (.ref (cadr mg "BadSign")) (.ref (cadr mg "BadCount")) = some false
  xm_BadSign_BadSign : PySem.W.exmOne K (.ref (cadr mg "BadSign")) (.ref (cadr mg "BadSign")) = some true
  xm_BadSign_Loose : PySem.W.exmOne K (.ref (cadr mg "BadSign")) (.ref (cadr mg "Loose")) = some false
  xm_BadSign_Short : PySem.W.exmOne K (.ref (cadr mg "BadSign")) (.ref (cadr mg "Short")) = some false
  xm_Loose_BadBit : PySem.W.exmOne K (.ref (cadr mg "Loose")) (.ref (cadr mg "BadBit")) = some false
  xm_Loose_BadCount : PySem.W.exmOne K (.ref (cadr mg "Loose")) (.ref (cadr mg "BadCount")) = some false
  xm_Loose_Loose : PySem.W.exmOne K (.ref (cadr mg "Loose")) (.ref (cadr mg "Loose")) = some true
  xm_Short_BadBit : PySem.W.exmOne K (.ref (cadr mg "Short")) (.ref (cadr mg "BadBit")) = some false
  xm_Short_BadCount : PySem.W.exmOne K (.ref (cadr mg "Short")) (.ref (cadr mg "BadCount")) = some false
  xm_Short_Loose : PySem.W.exmOne K (.ref (cadr mg "Short")) (.ref (cadr mg "Loose")) = some false
  xm_Short_Short : PySem.W.exmOne K (.ref (cadr mg "Short")) (.ref (cadr mg "Short")) = some true
  kd_BadBit : Kinds K mg "BadBit"
  kd_BadCount : Kinds K mg "BadCount"
  kd_BadSign : Kinds K mg "BadSign"
  kd_Loose : Kinds K mg "Loose"
  kd_Short : Kinds K mg "Short"
section
variable {P : Program} {w : World} {K : PySem.W.Frag} {mg : Str → Option Value} {base : Heap}
def sp_isV : Sp := fun vs H Q _ => ∃ (x : V) (lo hi : Int), vs = [x, .int lo, .int hi] ∧ Sc x ∧ RetV (.bl (whV x lo hi)) H Q
theorem spv_isV {H : Hp} {x : V} {lo hi : Int} (h : Sc x) : SpV sp_isV [x, .int lo, .int hi] H (.bl (whV x lo hi)) := spv fun H1 _ Q E q => ⟨x, lo, hi, rfl, h, q⟩
theorem ok_is_whole_Vx {f : Addr} {fd : FuncData} (T : Txt K mg) (F : Fun K "is_whole" "is_whole" s_is_whole f fd) : FnOk P w K mg base CX0 1 f fd ["value", "low", "high"] sp_isV := by
  refine F.ok sc_is_whole (fun vs H Q E h => by obtain ⟨x, lo, hi, rfl, _⟩ := h; rfl) (fun cdv A outer s H vs Q E hr h => ?_)
  obtain ⟨x, lo, hi, rfl, hx, q⟩ := h
  refine ⟨_, (pss_cons (ps_if (PW.pt (pw_or (pt_val (pe_callB call_isi (by rfl) T.b_isinstance (by decide +kernel) (pa_cons (pv 0) (pa_cons (pe_bltn (v := .ty "bool") (by rfl) T.b_bool (by decide +kernel) rfl) pa_nil)))) (pw_or1 (pt_not (pt_val (pe_callB call_isi (by rfl) T.b_isinstance (by decide +kernel) (pa_cons (pv 0) (pa_cons (pe_bltn (v := .ty "int") (by rfl) T.b_int (by decide +kernel) rfl) pa_nil)))))))) (pss_one (ps_ret pe_bl)) pss_nil)
      (pss_one (ps_ret (pe_chain op_le op_le (pv 1) (pv 0) (pv 2))))), ?_⟩
  cases hx with
  | int v =>
    refine q_when (b := false) (et_or (a := false) (et_B (ev_isi (ev_var rfl) ev_c (fun _ _ => ty_int) (by decide +kernel))) fun _ => et_not (a := true) (et_B (ev_isi (ev_var rfl) ev_c (fun _ _ => ty_int) (by decide +kernel)))) (fun hx => nomatch hx) (fun _ H1 e1 => ?_)
    exact s_ret (ev_is (ev_chain (ev_var rfl) (ev_var rfl) (ev_var rfl)) (w := .bl (whV (.int v) lo hi)) rfl) fun H2 e2 => q H2 (e1.trans e2)
  | bl b =>
    refine q_when (b := true) (et_or (a := true) (b := false) (et_B (ev_isi (ev_var rfl) ev_c (fun _ _ => ty_bl) (by decide +kernel))) fun hx => nomatch hx) (fun _ H1 e1 => ?_) (fun hx => nomatch hx)
    exact s_ret ev_c fun H2 e2 => q H2 (e1.trans e2)
  | str y =>
    refine q_when (b := true) (et_or (a := false) (et_B (ev_isi (ev_var rfl) ev_c (fun _ _ => ty_str) (by decide +kernel))) fun _ => et_not (a := false) (et_B (ev_isi (ev_var rfl) ev_c (fun _ _ => ty_str) (by decide +kernel)))) (fun _ H1 e1 => ?_) (fun hx => nomatch hx)
    exact s_ret ev_c fun H2 e2 => q H2 (e1.trans e2)
  | non =>
    refine q_when (b := true) (et_or (a := false) (et_B (ev_isi (ev_var rfl) ev_c (fun _ _ => ty_non) (by decide +kernel))) fun _ => et_not (a := false) (et_B (ev_isi (ev_var rfl) ev_c (fun _ _ => ty_non) (by decide +kernel)))) (fun _ H1 e1 => ?_) (fun hx => nomatch hx)
    exact s_ret ev_c fun H2 e2 => q H2 (e1.trans e2)
def sp_isw : Sp := fun vs H Q _ => ∃ v lo hi : Int, vs = [.int v, .int lo, .int hi] ∧ RetV (.bl (decide (lo ≤ v) && decide (v ≤ hi))) H Q
theorem isw_q {v lo hi : Int} {H : Hp} {Q : VK} (h1 : lo ≤ v) (h2 : v ≤ hi) (q : RetV (.bl true) H Q) : RetV (.bl (decide (lo ≤ v) && decide (v ≤ hi))) H Q := by
  rw [decide_eq_true h1, decide_eq_true h2]
  exact q
theorem ok_is_whole {f : Addr} {fd : FuncData} (T : Txt K mg) (F : Fun K "is_whole" "is_whole" s_is_whole f fd) : FnOk P w K mg base CX0 1 f fd ["value", "low", "high"] sp_isw := by
  refine F.ok sc_is_whole (fun vs H Q E h => by obtain ⟨v, lo, hi, rfl, _⟩ := h; rfl) (fun cdv A outer s H vs Q E hr h => ?_)
  obtain ⟨v, lo, hi, rfl, q⟩ := h
  refine ⟨_, (pss_cons (ps_if (PW.pt (pw_or (pt_val (pe_callB call_isi (by rfl) T.b_isinstance (by decide +kernel) (pa_cons (pv 0) (pa_cons (pe_bltn (v := .ty "bool") (by rfl) T.b_bool (by decide +kernel) rfl) pa_nil)))) (pw_or1 (pt_not (pt_val (pe_callB call_isi (by rfl) T.b_isinstance (by decide +kernel) (pa_cons (pv 0) (pa_cons (pe_bltn (v := .ty "int") (by rfl) T.b_int (by decide +kernel) rfl) pa_nil)))))))) (pss_one (ps_ret pe_bl)) pss_nil)
      (pss_one (ps_ret (pe_chain op_le op_le (pv 1) (pv 0) (pv 2))))), ?_⟩
  refine q_when (b := false) (et_or (a := false) (et_B (ev_isi (ev_var rfl) ev_c (fun _ _ => ty_int) (by decide +kernel))) fun _ => et_not (a := true) (et_B (ev_isi (ev_var rfl) ev_c (fun _ _ => ty_int) (by decide +kernel)))) (fun hx => nomatch hx) (fun _ H1 e1 => ?_)
  refine s_ret (ev_is (ev_chain (ev_var rfl) (ev_var rfl) (ev_var rfl)) (w := .bl (decide (lo ≤ v) && decide (v ≤ hi))) ?_) fun H2 e2 => q H2 (e1.trans e2)
  cases decide (lo ≤ v) <;> cases decide (v ≤ hi) <;> rfl
def sp_chkS (K : PySem.W.Frag) : Sp := fun vs H Q _ => ∃ (a : Addr) (ns : List Int), vs = [.ref a] ∧ H a = some (.lst (ns.map V.int)) ∧ Shares ns ∧ RetV .non H Q
theorem spv_chkS {H : Hp} {a : Addr} {ns : List Int} (ha : H a = some (.lst (ns.map V.int))) (hs : Shares ns) : SpV (sp_chkS K) [.ref a] H .non :=
  spv fun H1 e1 Q E q => ⟨a, ns, rfl, e1 _ _ ha, hs, q⟩
theorem ok_check_shares {f : Addr} {fd : FuncData} (T : Txt K mg) (F : Fun K "check_shares" "check_shares" s_check_shares f fd) (C_is_whole : Cal P w K mg base "is_whole" ["value", "low", "high"] 1 sp_isw) : FnOk P w K mg base CX0 2 f fd ["shares"] (sp_chkS K) := by
  refine F.ok sc_check_shares (fun vs H Q E h => by obtain ⟨a, ns, rfl, _⟩ := h; rfl) (fun cdv A outer s H vs Q E hr h => ?_)
  obtain ⟨a, ns, rfl, ha, ⟨h1, h2, h3⟩, q⟩ := h
  refine ⟨_, (pss_cons (ps_if (PW.pt (pw_or (pt_not (pt_val (pe_callB call_isi (by rfl) T.b_isinstance (by decide +kernel) (pa_cons (pv 0) (pa_cons (pe_bltn (v := .ty "list") (by rfl) T.b_list (by decide +kernel) rfl) pa_nil))))) (pw_or1 (pt_not (pt_chain op_le op_le pe_int (pe_callB call_len_seq (by rfl) T.b_len PySem.boot_len (pa_cons (pv 0) pa_nil)) (pe_globX (by rfl) T.g_MOST_SHARES)))))) (pss_one ps_never) pss_nil)
      (pss_one (ps_for PassesOwn.never rfl (pi_list (pv 0)) (pg_name (i := 1) sc_check_shares.nd rfl (Or.inl rfl)) (pss_one (ps_if (pt_not (pt_val (pe_cal C_is_whole hr (by decide) (by rfl) (pa_cons (pv 1) (pa_cons pe_int (pa_cons (pe_globX (by rfl) T.g_GREATEST_SHARE) pa_nil)))))) (pss_one ps_never) pss_nil))))), ?_⟩
  refine q_when (b := false) (et_or (a := false) (et_not (a := true) (et_B (ev_isi (ev_var rfl) ev_c (fun _ e => ty_lst (e _ _ ha)) (by decide +kernel)))) fun _ => et_not (a := true) (et_is (et_test (ev_chain ev_c (ev_lenL (ev_var rfl) (sq_of ha)) ev_c)) ?_)) (fun hx => nomatch hx) (fun _ H1 e1 => ?_)
  · rw [List.length_map, decide_eq_true (by omega), decide_eq_true (by omega)]
    rfl
  refine s_forLn (ev_var rfl) (sq_of (e1 _ _ ha)) (fun i σ' H' => Ex H1 H' ∧ ∃ y1, σ' = [some (.ref a), y1]) (fun H2 e2 => ⟨e2, none, rfl⟩) (fun i σ' H' _ p => sq_of (p.1 _ _ (e1 _ _ ha))) (fun i x σ' H' hx p => ?_) (fun σ' H' p => ?_)
  · obtain ⟨e2, y1, rfl⟩ := p
    obtain ⟨z, rfl, hz⟩ := int_at hx
    obtain ⟨g1, g2⟩ := h3 z (List.mem_of_getElem? hz)
    refine s_when (b := false) (et_not (a := true) (et_B (ev_cal (ea_cons (ev_var rfl) (ea_cons ev_c (ea_cons ev_c ea_nil))) (spv fun H3 _ Q E q => ⟨z, 1, 1000000000000, rfl, isw_q g1 g2 q⟩)))) (fun hx => nomatch hx) (fun _ H3 e3 => ?_)
    exact ⟨e2.trans e3, _, rfl⟩
  · obtain ⟨e2, y1, rfl⟩ := p
    exact q H' (e1.trans e2)
def sp_chkC (K : PySem.W.Frag) : Sp := fun vs H Q _ => ∃ (a : Addr) (ns : List Int) (n : Nat), vs = [.ref a, .int (n : Int)] ∧ H a = some (.lst (ns.map V.int)) ∧ Counts ns n ∧ RetV .non H Q
theorem ok_check_counts {f : Addr} {fd : FuncData} (T : Txt K mg) (F : Fun K "check_counts" "check_counts" s_check_counts f fd) (C_is_whole : Cal P w K mg base "is_whole" ["value", "low", "high"] 1 sp_isw) : FnOk P w K mg base CX0 2 f fd ["counts", "many"] (sp_chkC K) := by
  refine F.ok sc_check_counts (fun vs H Q E h => by obtain ⟨a, ns, n, rfl, _⟩ := h; rfl) (fun cdv A outer s H vs Q E hr h => ?_)
  obtain ⟨a, ns, n, rfl, ha, ⟨h1, h3⟩, q⟩ := h
  refine ⟨_, (pss_cons (ps_if (PW.pt (pw_or (pt_not (pt_val (pe_callB call_isi (by rfl) T.b_isinstance (by decide +kernel) (pa_cons (pv 0) (pa_cons (pe_bltn (v := .ty "list") (by rfl) T.b_list (by decide +kernel) rfl) pa_nil))))) (pw_or1 (pt_cmpR op_ne (pe_callB call_len_seq (by rfl) T.b_len PySem.boot_len (pa_cons (pv 0) pa_nil)) (pv 1) (nomark _))))) (pss_one ps_never) pss_nil)
      (pss_one (ps_for PassesOwn.never rfl (pi_list (pv 0)) (pg_name (i := 2) sc_check_counts.nd rfl (Or.inl rfl)) (pss_one (ps_if (pt_not (pt_val (pe_cal C_is_whole hr (by decide) (by rfl) (pa_cons (pv 2) (pa_cons pe_int (pa_cons (pe_globX (by rfl) T.g_GREATEST_SHARE) pa_nil)))))) (pss_one ps_never) pss_nil))))), ?_⟩
  refine q_when (b := false) (et_or (a := false) (et_not (a := true) (et_B (ev_isi (ev_var rfl) ev_c (fun _ e => ty_lst (e _ _ ha)) (by decide +kernel)))) fun _ => et_is (et_test (ev_op (ev_lenL (ev_var rfl) (sq_of ha)) (ev_var rfl) (rv_ne rfl))) ?_) (fun hx => nomatch hx) (fun _ H1 e1 => ?_)
  · rw [List.length_map, h1]
    simp
  refine s_forLn (ev_var rfl) (sq_of (e1 _ _ ha)) (fun i σ' H' => Ex H1 H' ∧ ∃ y1, σ' = [some (.ref a), some (.int (n : Int)), y1]) (fun H2 e2 => ⟨e2, none, rfl⟩) (fun i σ' H' _ p => sq_of (p.1 _ _ (e1 _ _ ha))) (fun i x σ' H' hx p => ?_) (fun σ' H' p => ?_)
  · obtain ⟨e2, y1, rfl⟩ := p
    obtain ⟨z, rfl, hz⟩ := int_at hx
    obtain ⟨g1, g2⟩ := h3 z (List.mem_of_getElem? hz)
    refine s_when (b := false) (et_not (a := true) (et_B (ev_cal (ea_cons (ev_var rfl) (ea_cons ev_c (ea_cons ev_c ea_nil))) (spv fun H3 _ Q E q => ⟨z, 0, 1000000000000, rfl, isw_q g1 g2 q⟩)))) (fun hx => nomatch hx) (fun _ H3 e3 => ?_)
    exact ⟨e2.trans e3, _, rfl⟩
  · obtain ⟨e2, y1, rfl⟩ := p
    exact q H' (e1.trans e2)
def sp_chkP : Sp := fun vs H Q _ => ∃ (c n : Int), vs = [.int c, .int n] ∧ n ≤ c ∧ c ≤ 1000000 ∧ RetV .non H Q
theorem ok_check_cap {f : Addr} {fd : FuncData} (T : Txt K mg) (F : Fun K "check_cap" "check_cap" s_check_cap f fd) (C_is_whole : Cal P w K mg base "is_whole" ["value", "low", "high"] 1 sp_isw) : FnOk P w K mg base CX0 2 f fd ["cap", "many"] sp_chkP := by
  refine F.ok sc_check_cap (fun vs H Q E h => by obtain ⟨c, n, rfl, _⟩ := h; rfl) (fun cdv A outer s H vs Q E hr h => ?_)
  obtain ⟨c, n, rfl, h1, h2, q⟩ := h
  refine ⟨_, (pss_one (ps_if (pt_not (pt_val (pe_cal C_is_whole hr (by decide) (by rfl) (pa_cons (pv 0) (pa_cons (pv 1) (pa_cons (pe_globX (by rfl) T.g_GREATEST_CAP) pa_nil)))))) (pss_one ps_never) pss_nil)), ?_⟩
  exact s_when (b := false) (et_not (a := true) (et_B (ev_cal (ea_cons (ev_var rfl) (ea_cons (ev_var rfl) (ea_cons ev_c ea_nil))) (spv fun H3 _ Q E q => ⟨c, n, 1000000, rfl, isw_q h1 h2 q⟩)))) (fun hx => nomatch hx) (fun _ H3 e3 => q H3 e3)
def sp_learnt (K : PySem.W.Frag) : Sp := fun vs H Q _ => ∃ (a b : Addr) (ns cs ys : List Int) (cap : Int), vs = [.ref a, .ref b, .int cap] ∧ H a = some (.lst (ns.map V.int)) ∧ H b = some (.lst (cs.map V.int)) ∧ Shares ns ∧ Counts cs ns.length ∧
  (ns.length : Int) ≤ cap ∧ cap ≤ 1000000 ∧ Halved cap (sumZ ns cs) ys ∧ RetL (ys.map V.int) H Q
theorem ok_learnt {f : Addr} {fd : FuncData} (T : Txt K mg) (F : Fun K "learnt" "learnt" s_learnt f fd) (C_check_shares : Cal P w K mg base "check_shares" ["shares"] 2 (sp_chkS K)) (C_check_counts : Cal P w K mg base "check_counts" ["counts", "many"] 2 (sp_chkC K)) (C_check_cap : Cal P w K mg base "check_cap" ["cap", "many"] 2 sp_chkP) : FnOk P w K mg base CX0 3 f fd ["shares", "counts", "cap"] (sp_learnt K) := by
  refine F.ok sc_learnt (fun vs H Q E h => by obtain ⟨a, b, ns, cs, ys, cap, rfl, _⟩ := h; rfl) (fun cdv A outer s H vs Q E hr h => ?_)
  obtain ⟨a, b, ns, cs, ys, cap, rfl, ha, hb, hS, hC, hc1, hc2, hy, q⟩ := h
  refine ⟨_, (pss_cons (ps_expr (pe_cal C_check_shares hr (by decide) (by rfl) (pa_cons (pv 0) pa_nil)))
      (pss_cons (ps_expr (pe_cal C_check_counts hr (by decide) (by rfl) (pa_cons (pv 1) (pa_cons (pe_callB call_len_seq (by rfl) T.b_len PySem.boot_len (pa_cons (pv 0) pa_nil)) pa_nil))))
      (pss_cons (ps_expr (pe_cal C_check_cap hr (by decide) (by rfl) (pa_cons (pv 2) (pa_cons (pe_callB call_len_seq (by rfl) T.b_len PySem.boot_len (pa_cons (pv 0) pa_nil)) pa_nil))))
      (pss_cons (ps_setLc (i := 3) (own := [("share", 4), ("count", 5)]) (g := (gTup K 2 (gCons (gName 4) (gCons (gName 5) gNil)))) (tt := tYes) rfl sc_learnt.nd rfl rfl (sw_true rfl rfl rfl (by decide +kernel)) (pi_zip (by rfl) T.b_zip (pa_cons (pv 0) (pa_cons (pv 1) pa_nil))) (blkOk_by (N := ["shares", "counts", "cap", "grown", "share", "count"]) (sc := defScope s_learnt) (by decide +kernel)) (fun _ _ _ _ _ => (pg_tup rfl (pgs_cons (pg_name (i := 4) sc_learnt.nd rfl (Or.inl rfl)) (pgs_cons (pg_name (i := 5) sc_learnt.nd rfl (Or.inl rfl)) pgs_nil)))) (fun _ _ _ _ _ => pts_nil) (fun _ _ _ _ _ => (pe_op op_add (pv 4) (pv 5))))
      (pss_cons (ps_while PassesOwn.never (pt_cmpR op_gt (pe_callB (cr_sum rfl) (by rfl) T.b_sum (by decide +kernel) (pa_cons (pv 3) pa_nil)) (pv 2) (nomark _)) (pss_one (ps_setLc (i := 3) (own := [("share", 4)]) (g := (gName 4)) (tt := tYes) rfl sc_learnt.nd rfl rfl (sw_true rfl rfl rfl (by decide +kernel)) (pi_list (pv 3)) (blkOk_by (N := ["shares", "counts", "cap", "grown", "share", "count"]) (sc := defScope s_learnt) (by decide +kernel)) (fun _ _ _ _ _ => (pg_name (i := 4) sc_learnt.nd rfl (Or.inl rfl))) (fun _ _ _ _ _ => pts_nil) (fun _ _ _ _ _ => (pe_op op_sub (pv 4) (pe_op op_fdiv (pv 4) pe_int))))))
      (pss_one (ps_ret (pv 3)))))))), ?_⟩
  refine q_drop (ev_cal (ea_cons (ev_var rfl) ea_nil) (spv_chkS ha hS)) fun H1 e1 => ?_
  refine q_drop (ev_cal (ea_cons (ev_var rfl) (ea_cons (ev_lenL (ev_var rfl) (sq_of (e1 _ _ ha))) ea_nil)) (spv fun H2 e2 Q E q => ⟨b, cs, ns.length, by rw [List.length_map], e2 _ _ (e1 _ _ hb), hC, q⟩)) fun H2 e2 => ?_
  have e12 := e1.trans e2
  refine q_drop (ev_cal (ea_cons (ev_var rfl) (ea_cons (ev_lenL (ev_var rfl) (sq_of (e12 _ _ ha))) ea_nil)) (spv fun H3 e3 Q E q => ⟨cap, ns.length, by rw [List.length_map], hc1, hc2, q⟩)) fun H3 e3 => ?_
  have e13 := e12.trans e3
  obtain ⟨hS1, hS2, hS3⟩ := id hS
  refine q_asgL (el_mapZ ((sumZ ns cs).map V.int) (ea_cons (ev_var rfl) (ea_cons (ev_var rfl) ea_nil)) (sq_of (e13 _ _ ha)) (sq_of (e13 _ _ hb)) (by rw [List.length_map, List.length_map, hC.1]) (by rw [List.length_map, List.length_map, sumZ_len hC.1]) (by rw [List.length_map]; omega) (fun _ _ => rfl) (fun k x z y H4 e4 h1 h2 h3 => ?_)) fun p H4 hp e4 h4 => ?_
  · obtain ⟨x, rfl, g1⟩ := int_at h1
    obtain ⟨z, rfl, g2⟩ := int_at h2
    obtain ⟨y, rfl, g3⟩ := int_at h3
    rw [sumZ_at g1 g2] at g3
    cases g3
    exact ev_op (ev_var rfl) (ev_var rfl) rv_I0
  refine q_while (fun m σ' H' => ∃ p y1 y2, σ' = [some (.ref a), some (.ref b), some (.int cap), some (.ref p), y1, y2] ∧ WH cap ys ns.length H m p H') ((sumZ ns cs).sum.toNat) ⟨p, _, _, rfl, sumZ ns cs, e13.trans e4, h4, fresh_back e13 hp, hy, sumZ_pos (fun x hx => (hS3 x hx).1) (fun x hx => (hC.2 x hx).1), sumZ_len hC.1, hc1, hS2, rfl⟩ (fun m σ' H' hw => ?_)
  obtain ⟨p', y1, y2, rfl, xs, f1, f2, f3, f4, f5, f6, f7, f8, rfl⟩ := hw
  refine ⟨decide (cap < xs.sum), et_test (ev_op (ev_sum (ev_var rfl) (sq_of f2)) (ev_var rfl) rv_I0), fun hb2 H5 e5 => ?_, fun hb2 H5 e5 => ?_⟩
  · have hlt := of_decide_eq_true hb2
    have hl : xs.sum.toNat > (xs.map half).sum.toNat := by
      have h1 := (sum_half f5).2 (by omega)
      have h2 := sum_ge f5
      omega
    refine ⟨fun σ2 H2 => ∃ m', m' < xs.sum.toNat ∧ ∃ p y1 y2, σ2 = [some (.ref a), some (.ref b), some (.int cap), some (.ref p), y1, y2] ∧ WH cap ys ns.length H m' p H2, fun σ2 H2 h => h, ?_⟩
    refine s_asgL (el_mapL ((xs.map half).map V.int) (ev_var rfl) (sq_of (e5 _ _ f2)) (by simp) (by rw [List.length_map]; omega) (fun _ => rfl) (fun i x y H6 e6 g1 g2 => ?_)) fun p2 H6 hp2 e6 h6 => ?_
    · obtain ⟨x, rfl, g3⟩ := int_at g1
      obtain ⟨y, rfl, g4⟩ := int_at g2
      rw [List.getElem?_map, g3] at g4
      cases g4
      exact ev_op (ev_var rfl) (ev_op (ev_var rfl) ev_c (rv_fdiv (by decide))) rv_I0
    · cases f4 with
      | stop h => omega
      | step _ hh =>
        exact ⟨_, hl, p2, _, _, rfl, xs.map half, (f1.trans e5).trans e6, h6, fresh_back (f1.trans e5) hp2, hh, fun x hx => by
          obtain ⟨y, hy, rfl⟩ := List.mem_map.mp hx
          exact (half_pos (f5 y hy)).1, by rw [List.length_map, f6], f7, f8, rfl⟩
  · have hle := of_decide_eq_false hb2
    cases f4 with
    | step h _ => omega
    | stop _ => exact s_ret (ev_var rfl) fun H6 e6 => q p' H6 f3 ((f1.trans e5).trans e6) (e6 _ _ (e5 _ _ f2))
def sp_pairs (K : PySem.W.Frag) : Sp := fun vs H Q _ => ∃ (a : Addr) (ns : List Int), vs = [.ref a] ∧ H a = some (.lst (ns.map V.int)) ∧ Shares ns ∧ RetR (HF.made ns) H Q
/-- where the loop stands -/
structure PairsAt (K : PySem.W.Frag) (ns : List Int) (H : Hp) (l q : Addr) (m : Nat) (H' : Hp) : Prop where
  ex : Ex H H'
  nl : H l = none
  nq : H q = none
  lq : l ≠ q
  st : ∃ (as : List Addr) (kk : HQ.Ky) (fr : List HF.Nd) (ts : List Addr) (rows : List (Int × Int)), H' l = some (.lst (as.map V.ref)) ∧ H' q = some (.lst (ts.map V.ref)) ∧ KeysT H' as kk ∧ HQ.Hq kk as ∧ (as.map kk).Perm fr ∧ HF.Sorted fr ∧ Rws H' ts rows ∧
    rows ++ HF.huff fr.length fr ((ns.length : Int) + (rows.length : Int)) = HF.made ns ∧ as.length + rows.length = ns.length ∧ m = as.length ∧ 1 ≤ as.length
theorem kle_nle {kk : HQ.Ky} {a b : Addr} : HQ.kle kk a b ↔ HF.nle (kk a) (kk b) := Iff.rfl
theorem ok_pairs {f : Addr} {fd : FuncData} (T : Txt K mg) (F : Fun K "pairs" "pairs" s_pairs f fd) (C_check_shares : Cal P w K mg base "check_shares" ["shares"] 2 (sp_chkS K)) : FnOk P w K mg base CX0 3 f fd ["shares"] (sp_pairs K) := by
  refine F.ok sc_pairs (fun vs H Q E h => by obtain ⟨a, ns, rfl, _⟩ := h; rfl) (fun cdv A outer s H vs Q E hr h => ?_)
  obtain ⟨a, ns, rfl, ha, hS, q⟩ := h
  obtain ⟨hS1, hS2, hS3⟩ := id hS
  refine ⟨_, (pss_cons (ps_expr (pe_cal C_check_shares hr (by decide) (by rfl) (pa_cons (pv 0) pa_nil)))
      (pss_cons (ps_setLc (i := 1) (own := [("number", 7), ("share", 8)]) (g := (gTup K 2 (gCons (gName 7) (gCons (gName 8) gNil)))) (tt := tYes) rfl sc_pairs.nd rfl rfl (sw_true rfl rfl rfl (by decide +kernel)) (pi_enum (by rfl) T.b_enumerate (pa_cons (pv 0) pa_nil)) (blkOk_by (N := ["shares", "free", "made", "least", "first", "following", "other", "number", "share"]) (sc := defScope s_pairs) (by decide +kernel)) (fun _ _ _ _ _ => (pg_tup rfl (pgs_cons (pg_name (i := 7) sc_pairs.nd rfl (Or.inl rfl)) (pgs_cons (pg_name (i := 8) sc_pairs.nd rfl (Or.inl rfl)) pgs_nil)))) (fun _ _ _ _ _ => pts_nil) (fun _ _ _ _ _ => (pe_tup (pa_cons (pv 8) (pa_cons (pv 7) pa_nil)))))
      (pss_cons (ps_expr (pe_callBfun (HQ.cr_heapify (HQ.hu2 hr)) (by rfl) T.g_heapify (pa_cons (pv 1) pa_nil)))
      (pss_cons (ps_set (i := 2) sc_pairs.nd rfl (Or.inl rfl) (pe_lst pa_nil))
      (pss_cons (ps_while PassesOwn.never (pt_cmpR op_gt (pe_callB call_len_seq (by rfl) T.b_len PySem.boot_len (pa_cons (pv 1) pa_nil)) pe_int (nomark _)) (pss_cons (ps_asg (pe_callBfun (HQ.cr_heappop (HQ.hu2 hr)) (by rfl) T.g_heappop (pa_cons (pv 1) pa_nil)) (pg_tup rfl (pgs_cons (pg_name (i := 3) sc_pairs.nd rfl (Or.inl rfl)) (pgs_cons (pg_name (i := 4) sc_pairs.nd rfl (Or.inl rfl)) pgs_nil))))
      (pss_cons (ps_asg (pe_callBfun (HQ.cr_heappop (HQ.hu2 hr)) (by rfl) T.g_heappop (pa_cons (pv 1) pa_nil)) (pg_tup rfl (pgs_cons (pg_name (i := 5) sc_pairs.nd rfl (Or.inl rfl)) (pgs_cons (pg_name (i := 6) sc_pairs.nd rfl (Or.inl rfl)) pgs_nil))))
      (pss_cons (ps_expr (pe_callBfun (HQ.cr_heappush (HQ.hu2 hr)) (by rfl) T.g_heappush (pa_cons (pv 1) (pa_cons (pe_tup (pa_cons (pe_op op_add (pv 3) (pv 5)) (pa_cons (pe_op op_add (pe_callB call_len_seq (by rfl) T.b_len PySem.boot_len (pa_cons (pv 0) pa_nil)) (pe_callB call_len_seq (by rfl) T.b_len PySem.boot_len (pa_cons (pv 2) pa_nil))) pa_nil))) pa_nil))))
      (pss_one (ps_expr (pe_bm PySem.F.plainAttrs_list PySem.F.slot_list_append PySem.F.type_list_append mt_append (pv 2) (pa_cons (pe_tup (pa_cons (pv 4) (pa_cons (pv 6) pa_nil))) pa_nil))))))))
      (pss_one (ps_ret (pv 2)))))))), ?_⟩
  refine q_drop (ev_cal (ea_cons (ev_var rfl) ea_nil) (spv_chkS ha hS)) fun H1 e1 => ?_
  have ha1 := e1 _ _ ha
  refine q_enumTups (fun k => [.int (ns.getD k 0), .int (k : Int)]) (ea_cons (ev_var rfl) ea_nil) (sq_of ha1) (by rw [List.length_map]; omega) (fun _ _ => rfl) (fun k x H2 e2 hx => ?_) fun l as H2 hl e2 hl2 hlen hts => ?_
  · obtain ⟨z, rfl, hz⟩ := int_at hx
    have : ns.getD k 0 = z := by rw [List.getD_eq_getElem?_getD, hz]; rfl
    rw [this]
    exact eu_tup (ea_cons (ev_var rfl) (ea_cons (ev_var rfl) ea_nil)) (by simp)
  rw [List.length_map] at hlen
  have e12 := e1.trans e2
  -- the keys
  obtain ⟨kk, hkk⟩ : ∃ kk : HQ.Ky, (∀ (i : Nat) t, as[i]? = some t → kk t = (ns.getD i 0, (i : Int))) := by
    refine ⟨fun t => (ns.getD (as.idxOf t) 0, ((as.idxOf t : Nat) : Int)), fun i t hi => ?_⟩
    have hnd : as.idxOf t = i := by
      have h1 : as.idxOf t < as.length := List.idxOf_lt_length_of_mem (List.mem_of_getElem? hi)
      have h2 : as[as.idxOf t]? = some t := by rw [List.getElem?_eq_getElem h1, List.getElem_idxOf]
      have h3 := (hts _ _ h2).symm.trans (hts _ _ hi)
      injection h3 with h3
      injection h3 with h3
      injection h3 with _ h3
      injection h3 with h3 _
      have := V.int.inj h3
      omega
    dsimp only
    rw [hnd]
  have hK : KeysT H2 as kk := fun t ht => by
    obtain ⟨i, hi⟩ := List.mem_iff_getElem?.mp ht
    rw [hkk i t hi]
    exact hts i t hi
  have hnodes : as.map kk = HF.nodes ns := by
    refine List.ext_getElem? fun i => ?_
    rw [List.getElem?_map]
    by_cases hi : i < ns.length
    · have h1 : as[i]? = some as[i] := List.getElem?_eq_getElem (by omega)
      have h2 : ns[i]? = some ns[i] := List.getElem?_eq_getElem hi
      rw [h1, HF.nodes_at h2, Option.map_some, hkk i _ h1, List.getD_eq_getElem?_getD, h2]
      rfl
    · rw [List.getElem?_eq_none (by omega), List.getElem?_eq_none (by rw [HF.nodes_len]; omega)]
      rfl
  -- heapify(free)
  refine ⟨.ref l, rfl, l, as, kk, rfl, hl2, hK.k, by omega, fun as1 hp1 hq1 => ?_⟩
  have e3 : Ex H (L2.upd H2 l (.lst (as1.map V.ref))) := Ex.mut e12 (fresh_back e1 hl)
  refine q_asgL (el_lst ea_nil (by decide)) fun q2 H3 hq2 e4 h3 => ?_
  have h3l := e4 _ _ (show L2.upd H2 l (.lst (as1.map V.ref)) l = some (.lst (as1.map V.ref)) from upd_same)
  have hlq : l ≠ q2 := fun e => by
    rw [e, upd_same] at hq2
    cases hq2
  refine q_while (fun m σ' H' => ∃ y1 y2 y3 y4 y5 y6, σ' = [some (.ref a), some (.ref l), some (.ref q2), y1, y2, y3, y4, y5, y6] ∧ PairsAt K ns H l q2 m H') as1.length ⟨_, _, _, _, _, _, rfl, e3.trans e4, fresh_back e1 hl, fresh_back e3 hq2, hlq,
    as1, kk, HF.srt (HF.nodes ns), [], [], h3l, h3, ((hK.upd hl2).sub fun t ht => hp1.mem_iff.mp ht).ex e4, hq1, ?_, HF.srt_sorted _, Rws.nil, ?_, ?_, rfl, ?_⟩ (fun m σ' H' hw => ?_)
  · rw [← hnodes]
    exact (hp1.map kk).trans (HF.srt_perm _).symm
  · rw [HF.made_eq]
    simp
  · rw [hp1.length_eq]
    simpa using hlen
  · rw [hp1.length_eq]
    omega
  obtain ⟨y1, y2, y3, y4, y5, y6, rfl, f1, f2, f3, f4, as, kk, fr, ts, rows, g1, g2, g3, g4, g5, g6, g7, g8, g9, rfl, g10⟩ := hw
  refine ⟨decide (1 < as.length), et_is (et_test (ev_op (ev_lenL (ev_var rfl) (sq_of g1)) ev_c rv_I0)) ?_, fun hb H4 e5 => ?_, fun hb H4 e5 => ?_⟩
  · rw [List.length_map]
    by_cases h : 1 < as.length
    · rw [decide_eq_true h, decide_eq_true (by omega)]
    · rw [decide_eq_false h, decide_eq_false (by omega)]
  · have hlt := of_decide_eq_true hb
    refine ⟨fun σ2 H2 => ∃ m', m' < as.length ∧ ∃ y1 y2 y3 y4 y5 y6, σ2 = [some (.ref a), some (.ref l), some (.ref q2), y1, y2, y3, y4, y5, y6] ∧ PairsAt K ns H l q2 m' H2, fun σ2 H2 h => h, ?_⟩
    have g1' := e5 _ _ g1
    refine q_pop rfl g1' (g3.ex e5) g4 (fun e => by rw [e] at hlt; simp at hlt) fun a1 as1 p1 m1 k1 s1 => ?_
    have l1 : as.length = as1.length + 1 := p1.length_eq
    obtain ⟨r1, rfl, o1, o2⟩ := HF.least_is (((p1.map kk).symm.trans g5)) (fun b hb => by
      obtain ⟨t, ht, rfl⟩ := List.mem_map.mp (show b ∈ (a1 :: as1).map kk from hb)
      exact m1 t (p1.mem_iff.mpr ht)) g6
    refine q_pop rfl upd_same s1 k1 (fun e => by rw [e] at l1; simp at l1; omega) fun a2 as2 p2 m2 k2 s2 => ?_
    have l2 : as1.length = as2.length + 1 := p2.length_eq
    obtain ⟨r2, rfl, o3, o4⟩ := HF.least_is (((p2.map kk).symm.trans o1)) (fun b hb => by
      obtain ⟨t, ht, rfl⟩ := List.mem_map.mp (show b ∈ (a2 :: as2).map kk from hb)
      exact m2 t (p2.mem_iff.mpr ht)) o2
    rw [upd_upd] at s2 ⊢
    have hql : q2 ≠ l := fun e => f4 e.symm
    have u1 : L2.upd H4 l (.lst (as2.map V.ref)) q2 = some (.lst (ts.map V.ref)) := by
      rw [upd_ne hql]
      exact e5 _ _ g2
    have ua : L2.upd H4 l (.lst (as2.map V.ref)) a = some (.lst (ns.map V.int)) := by
      rw [upd_ne (ne_of_none ha f2)]
      exact e5 _ _ (f1 _ _ ha)
    have gl : (ts.map V.ref).length = rows.length := by rw [List.length_map, g7.1]
    have f10 : Ex H (L2.upd H4 l (.lst (as2.map V.ref))) := Ex.mut (f1.trans e5) f2
    have gR : Rws (L2.upd H4 l (.lst (as2.map V.ref))) ts rows := (g7.ex e5).upd g1'
    refine q_push (w := (kk a1).1 + (kk a2).1) (k := (ns.length : Int) + (rows.length : Int)) rfl upd_same (eu_tup (ea_cons (ev_op (ev_var rfl) (ev_var rfl) rv_I0) (ea_cons (ev_is (ev_op (ev_lenL (ev_var rfl) (sq_of ua)) (ev_lenL (ev_var rfl) (sq_of u1)) rv_I0) (by rw [List.length_map, gl])) ea_nil)) (by simp)) s2 k2 (by omega) fun x H5 as3 hx e6 p3 hx2 k3 s3 => ?_
    have u2 : L2.upd H5 l (.lst (as3.map V.ref)) q2 = some (.lst (ts.map V.ref)) := by
      rw [upd_ne hql]
      exact e6 _ _ u1
    have f11 : Ex H (L2.upd H5 l (.lst (as3.map V.ref))) := Ex.mut (f10.trans e6) f2
    have gR2 : Rws (L2.upd H5 l (.lst (as3.map V.ref))) ts rows := (gR.ex e6).upd (e6 _ _ upd_same)
    refine s_appU u2 (ev_var rfl) (eu_tup (ea_cons (ev_var rfl) (ea_cons (ev_var rfl) ea_nil)) (by simp)) (by rw [gl]; omega) fun t H6 ht e7 h7 => ?_
    have l3 : as3.length = as2.length + 1 := p3.length_eq
    refine ⟨as3.length, by omega, _, _, _, _, _, _, rfl, Ex.mut (f11.trans e7) f3, f2, f3, f4, as3, kkx kk x _, HF.ins ((kk a1).1 + (kk a2).1, (ns.length : Int) + (rows.length : Int)) r2, ts ++ [t], rows ++ [((kk a1).2, (kk a2).2)], ?_, ?_, (s3.ex e7).upd (e7 _ _ u2), k3, ?_, HF.ins_sorted _ o4, ?_, ?_, ?_, rfl, by omega⟩
    · rw [upd_ne f4]
      exact e7 _ _ upd_same
    · rw [upd_same, List.map_append]
      rfl
    · refine ((p3.map _).trans ?_).trans (HF.ins_perm _ _).symm
      rw [List.map_cons, kkx_x]
      refine List.Perm.cons _ ?_
      rw [List.map_congr_left hx2]
      exact o3
    · refine Rws.snoc ((gR2.ex e7).upd (e7 _ _ u2)) ?_
      rw [upd_ne (ne_of h7 (e7 _ _ u2) fun z => nomatch z)]
      exact h7
    · rw [← g8, HF.huff_two, List.append_assoc, List.length_append]
      show rows ++ ([((kk a1).2, (kk a2).2)] ++ _) = rows ++ ((kk a1).2, (kk a2).2) :: _
      congr 2
    · rw [List.length_append]
      simp
      omega
  · have hle := of_decide_eq_false hb
    have hfr : fr.length ≤ 1 := by rw [← g5.length_eq, List.length_map]; omega
    rw [HF.huff_end hfr, List.append_nil] at g8
    exact s_ret (ev_var rfl) fun H5 e6 => q q2 ts H5 f3 ((f1.trans e5).trans e6) (e6 _ _ (e5 _ _ g2)) (by rw [← g8]; exact (g7.ex e5).ex e6)
theorem er_pairs {σ : L2.St} {H : Hp} {ta : TA} {a : Addr} {ns : List Int} {E : XK} (h : EvA ta σ H [.ref a]) (ha : H a = some (.lst (ns.map V.int))) (hS : Shares ns) :
    ∀ H1, Ex H H1 → ∀ Q : VK, (∀ (p : Addr) (ts : List Addr) H2, H1 p = none → Ex H1 H2 → H2 p = some (.lst (ts.map V.ref)) → Rws H2 ts (HF.made ns) → Q (.ref p) H2) → tCall (sp_pairs K) [] E ta σ H1 Q := fun H1 e1 Q q =>
  h H1 e1 _ fun H2 e2 => ⟨a, ns, rfl, (e1.trans e2) _ _ ha, hS, fun p ts H3 hp e3 h3 hR => q p ts H3 (fresh_back e2 hp) (e2.trans e3) h3 hR⟩
theorem q_pairs {σ : L2.St} {H : Hp} {ta : TA} {a : Addr} {ns : List Int} {E : XK} {tz : TS} {D : Ends} {i : Nat} (h : EvA ta σ H [.ref a]) (ha : H a = some (.lst (ns.map V.int))) (hS : Shares ns)
    (k : ∀ (p : Addr) (ts : List Addr) H1, H p = none → Ex H H1 → H1 p = some (.lst (ts.map V.ref)) → Rws H1 ts (HF.made ns) → tz D (σ.set i (some (.ref p))) H1) : tSeq (tAsg (tCall (sp_pairs K) [] E ta) (gName i)) tz D σ H :=
  er_pairs h ha hS H (Ex.refl H) _ fun p ts H1 hp e1 h1 hR => k p ts H1 hp e1 h1 hR
theorem q_pairsN {σ : L2.St} {H : Hp} {te : TE} {ns : List Int} {E : XK} {tz : TS} {D : Ends} {i : Nat} (h : EvL te σ H (ns.map V.int)) (hS : Shares ns)
    (k : ∀ (p : Addr) (ts : List Addr) H1, H p = none → Ex H H1 → H1 p = some (.lst (ts.map V.ref)) → Rws H1 ts (HF.made ns) → tz D (σ.set i (some (.ref p))) H1) : tSeq (tAsg (tCall (sp_pairs K) [] E (tCons te tNil)) (gName i)) tz D σ H :=
  h H (Ex.refl H) _ fun r H1 hr1 e1 h1 => ⟨r, ns, rfl, h1, hS, fun p ts H3 hp e3 h3 hR => k p ts H3 (fresh_back e1 hp) (e1.trans e3) h3 hR⟩
def sp_codes (K : PySem.W.Frag) : Sp := fun vs H Q _ => ∃ (a : Addr) (ns : List Int), vs = [.ref a] ∧ H a = some (.lst (ns.map V.int)) ∧ Shares ns ∧ RetL (wv (HF.codes ns)) H Q
theorem spl_codes {H : Hp} {a : Addr} {ns : List Int} (ha : H a = some (.lst (ns.map V.int))) (hS : Shares ns) : SpL (sp_codes K) [.ref a] H (wv (HF.codes ns)) := spl fun H1 e1 Q E q => ⟨a, ns, rfl, e1 _ _ ha, hS, q⟩
theorem str0 : V.str (PySem.Str.ofString "") = V.str (tx []) := congrArg V.str (by decide +kernel)
theorem strB0 : PySem.Str.ofString "0" = tx [48] := by decide +kernel
theorem strB1 : PySem.Str.ofString "1" = tx [49] := by decide +kernel
theorem ok_codes {f : Addr} {fd : FuncData} (T : Txt K mg) (F : Fun K "codes" "codes" s_codes f fd) (C_pairs : Cal P w K mg base "pairs" ["shares"] 3 (sp_pairs K)) : FnOk P w K mg base CX0 4 f fd ["shares"] (sp_codes K) := by
  refine F.ok sc_codes (fun vs H Q E h => by obtain ⟨a, ns, rfl, _⟩ := h; rfl) (fun cdv A outer s H vs Q E hr h => ?_)
  obtain ⟨a, ns, rfl, ha, hS, q⟩ := h
  obtain ⟨hS1, hS2, hS3⟩ := id hS
  refine ⟨_, (pss_cons (ps_set (i := 1) sc_codes.nd rfl (Or.inl rfl) (pe_cal C_pairs hr (by decide) (by rfl) (pa_cons (pv 0) pa_nil)))
      (pss_cons (ps_set (i := 2) sc_codes.nd rfl (Or.inl rfl) (pe_op op_rep (pe_lst (pa_cons pe_str pa_nil)) (pe_op op_add (pe_callB call_len_seq (by rfl) T.b_len PySem.boot_len (pa_cons (pv 0) pa_nil)) (pe_callB call_len_seq (by rfl) T.b_len PySem.boot_len (pa_cons (pv 1) pa_nil)))))
      (pss_cons (ps_for PassesOwn.never rfl (pi_revR (by rfl) T.b_reversed (prg_1 (by rfl) T.b_range (pe_callB call_len_seq (by rfl) T.b_len PySem.boot_len (pa_cons (pv 1) pa_nil)))) (pg_name (i := 3) sc_codes.nd rfl (Or.inl rfl)) (pss_cons (ps_asg (pe_ix ix_list (pv 1) (pv 3) (fun _ _ => rfl)) (pg_tup rfl (pgs_cons (pg_name (i := 4) sc_codes.nd rfl (Or.inl rfl)) (pgs_cons (pg_name (i := 5) sc_codes.nd rfl (Or.inl rfl)) pgs_nil))))
      (pss_cons (ps_set (i := 6) sc_codes.nd rfl (Or.inl rfl) (pe_ix ix_list (pv 2) (pe_op op_add (pe_callB call_len_seq (by rfl) T.b_len PySem.boot_len (pa_cons (pv 0) pa_nil)) (pv 3)) (fun _ _ => rfl)))
      (pss_cons (ps_asg (pe_op op_add_str (pv 6) pe_str) (pg_sub (pv 2) (pv 4) set_list))
      (pss_one (ps_asg (pe_op op_add_str (pv 6) pe_str) (pg_sub (pv 2) (pv 5) set_list)))))))
      (pss_one (ps_ret (pe_slice sl_list (pv 2) po_none (po_some (pe_callB call_len_seq (by rfl) T.b_len PySem.boot_len (pa_cons (pv 0) pa_nil))))))))), ?_⟩
  refine q_pairs (ea_cons (ev_var rfl) ea_nil) ha hS fun p ts H1 hp e1 h1 hR => ?_
  have ha1 := e1 _ _ ha
  have hml := HF.made_len ns
  have htl : (ts.map V.ref).length = ns.length - 1 := by rw [List.length_map, hR.1, hml]
  have hal : (ns.map V.int).length = ns.length := by rw [List.length_map]
  refine q_asgL (el_repE (n := ns.length + (ns.length - 1)) (el_lst (ea_cons (ev_is ev_c str0) ea_nil) (by simp)) (ev_is (ev_op (ev_lenL (ev_var rfl) (sq_of ha1)) (ev_lenL (ev_var rfl) (sq_of h1)) rv_I0) (by rw [hal, htl]; rfl)) (by omega)) fun l H2 hl e2 h2 => ?_
  have D0l : (List.replicate (ns.length + (ns.length - 1)) ([] : List Nat)).length = ns.length + (ns.length - 1) := List.length_replicate
  have e12 := e1.trans e2
  have a4 := HF.at4_start hS1
  refine q_forRev (n := ns.length - 1) (ev_is (ev_lenL (ev_var rfl) (sq_of (e2 _ _ h1))) (by rw [htl])) (by omega)
    (fun i σ' H' => ∃ y1 y2 y3 y4, σ' = [some (.ref a), some (.ref p), some (.ref l), y1, y2, y3, y4] ∧ Ex H1 H' ∧ H' l = some (.lst (wv (HF.fill (ns.length + (ns.length - 1 - i)) ((HF.made ns).drop (ns.length - 1 - i)) (List.replicate (ns.length + (ns.length - 1)) [])))))
    (fun H3 e3 => ⟨_, _, _, _, rfl, e2.trans e3, ?_⟩) (fun i σ' H' hi w => ?_) (fun σ' H' w => ?_)
  · rw [List.drop_of_length_le (by rw [hml]; omega)]
    exact e3 _ _ h2
  · obtain ⟨y1, y2, y3, y4, rfl, f1, f2⟩ := w
    have hj : ns.length - 1 - i = (ns.length - 1 - 1 - i) + 1 := by omega
    rw [hj] at f2
    generalize ns.length - 1 - 1 - i = j at hj f2 ⊢
    have hjl : j < (HF.made ns).length := by rw [hml]; omega
    have hrow : (HF.made ns)[j]? = some (HF.made ns)[j] := List.getElem?_eq_getElem hjl
    obtain ⟨rg1, rg2, rg3, rg4⟩ := HF.made_row hS1 hrow
    have hnx : ns.length - 1 - (i + 1) = j := by omega
    rw [hnx, List.drop_eq_getElem_cons hjl]
    generalize (HF.made ns)[j] = r at hrow rg1 rg2 rg3 rg4 ⊢
    generalize hD : HF.fill (ns.length + (j + 1)) ((HF.made ns).drop (j + 1)) (List.replicate (ns.length + (ns.length - 1)) []) = D at f2
    have hDl : D.length = ns.length + (ns.length - 1) := by rw [← hD, HF.fill_len, D0l]
    have hnew : HF.fill (ns.length + j) (r :: (HF.made ns).drop (j + 1)) (List.replicate (ns.length + (ns.length - 1)) []) = HF.put D (ns.length + j) r := by
      rw [← hD]
      rfl
    rw [hnew]
    have hp' := f1 _ _ h1
    refine q_row (r := r) (ev_var rfl) (ev_var rfl) (sq_of hp') (hR.ex f1) hrow fun H3 e3 => ?_
    have l3 := e3 _ _ f2
    have b0 : ((ns.length + j : Nat) : Int) < (D.length : Int) := by rw [hDl]; omega
    have a3 := e3 _ _ (f1 _ _ ha1)
    refine q_asg (ev_op (ev_var rfl) (ev_is (ev_op (ev_lenL (ev_var rfl) (sq_of a3)) (ev_var rfl) rv_I0) (w := .int ((ns.length + j : Nat) : Int)) (by rw [hal]; rfl)) (rv_ixL (sq_of l3) (wv_at (by omega) b0))) fun H4 e4 => ?_
    have bl : (HF.wat D ((ns.length + j : Nat) : Int)).length + 1 ≤ sizeLine := by
      obtain ⟨W, L, h4⟩ : ∃ W L, HF.At4 ns.length (j + 1) W L ((HF.made ns).drop (j + 1)) := HF.at4_drop hS1 (by rw [hml]; omega)
      have := (HF.fill_bits D0l (fun z hz => (List.mem_replicate.mp hz).2) h4 ((ns.length + j : Nat) : Int) (by omega)).2
      rw [hD, List.length_drop, hml] at this
      exact sz_of (by omega)
    have l4 := e4 _ _ l3
    refine q_setL (j := r.1.toNat) (v := .str (tx (HF.wat D ((ns.length + j : Nat) : Int) ++ [48]))) l4 (ev_is (ev_op (ev_var rfl) (ev_is ev_c (congrArg V.str strB0)) (rv_addS (by rw [tx_len, tx_len]; exact bl))) (by rw [tx_app])) (ev_var rfl) (ev_is (ev_var rfl) (by rw [show ((r.1.toNat : Nat) : Int) = r.1 by omega])) (by rw [wv_len, hDl]; omega) fun H5 e5 => ?_
    rw [wv_set]
    refine s_setL (j := r.2.toNat) (v := .str (tx (HF.wat D ((ns.length + j : Nat) : Int) ++ [49]))) upd_same (ev_is (ev_op (ev_var rfl) (ev_is ev_c (congrArg V.str strB1)) (rv_addS (by rw [tx_len, tx_len]; exact bl))) (by rw [tx_app])) (ev_var rfl) (ev_is (ev_var rfl) (by rw [show ((r.2.toNat : Nat) : Int) = r.2 by omega])) (by rw [wv_len, List.length_set, hDl]; omega) fun H6 e6 => ?_
    rw [wv_set]
    exact ⟨_, _, _, _, rfl, Ex.mut ((Ex.mut (((f1.trans e3).trans e4).trans e5) hl).trans e6) hl, upd_same⟩
  · obtain ⟨y1, y2, y3, y4, rfl, f1, f2⟩ := w
    rw [Nat.sub_self, List.drop_zero, Nat.add_zero] at f2
    have ec : (wv (HF.fill ns.length (HF.made ns) (List.replicate (ns.length + (ns.length - 1)) []))).take ns.length = wv (HF.codes ns) := by
      unfold HF.codes HF.wordsAll wv
      rw [List.map_take]
    refine s_retL (el_to (n := ns.length) (ev_var rfl) (ev_is (ev_lenL (ev_var rfl) (sq_of (f1 _ _ ha1))) (by rw [hal])) (sq_of f2)) fun r H3 hr3 e3 h3 => q r H3 (fresh_back (e1.trans f1) hr3) ((e1.trans f1).trans e3) ?_
    rw [ec] at h3
    exact h3
def sp_counted : Sp := fun vs H Q _ => ∃ ss bs : List Nat, vs = [.str (tx ss), .str (tx bs)] ∧ ss.length ≤ 1000 ∧ RetL ((countsOf ss bs).map V.int) H Q
theorem ok_counted {f : Addr} {fd : FuncData} (T : Txt K mg) (F : Fun K "counted" "counted" s_counted f fd) : FnOk P w K mg base CX0 1 f fd ["signs", "block"] sp_counted := by
  refine F.ok sc_counted (fun vs H Q E h => by obtain ⟨ss, bs, rfl, _⟩ := h; rfl) (fun cdv A outer s H vs Q E hr h => ?_)
  obtain ⟨ss, bs, rfl, hl, q⟩ := h
  refine ⟨_, (pss_one (ps_ret (pe_lc (own := [("sign", 2)]) (g := (gName 2)) (tt := tYes) rfl sc_counted.nd (pi_str (pv 0)) (blkOk_by (N := ["signs", "block", "sign"]) (sc := defScope s_counted) (by decide +kernel)) (fun _ _ _ _ _ => (pg_name (i := 2) sc_counted.nd rfl (Or.inl rfl))) (fun _ _ _ _ _ => pts_nil) (fun _ _ _ _ _ => (pe_bmK (K := K) rfl PySem.F.plainAttrs_str PySem.F.slot_str_count PySem.F.type_str_count mt_count (pv 1) (pa_cons (pv 2) pa_nil)))))), ?_⟩
  refine s_retL (el_mapS ((countsOf ss bs).map V.int) (ev_var rfl) (by simp [countsOf]) (by omega) (fun _ => rfl) (fun i c y H1 e1 h1 h2 => ?_)) fun p H1 hp e1 h1 => q p H1 hp e1 h1
  obtain ⟨z, rfl, h3⟩ := int_at h2
  unfold countsOf at h3
  rw [List.getElem?_map, h1] at h3
  cases h3
  exact ev_is (ev_bmS (ev_var rfl) (ea_cons (ev_var rfl) ea_nil) (z := .int (Txt.count (tx bs) (tx [c]))) fun H2 _ Q q => ⟨_, _, rfl, rfl, q H2 (Ex.refl _)⟩) (by rw [count_one])
def sp_law (K : PySem.W.Frag) : Sp := fun vs H Q _ => ∃ (a : Addr) (ns : List Int), vs = [.ref a] ∧ SqL K H a (ns.map V.int) ∧ ns.length ≤ 63 ∧ RetV (.bl true) H Q
theorem law_start {H : Hp} {a : Addr} {ns : List Int} (hl : ns.length ≤ 63) (hS : SqL K H a (ns.map V.int)) : sp_law K [.ref a] H (fun v _ => v = .bl true) (fun _ _ _ => False) := ⟨a, ns, rfl, hS, hl, fun _ _ => rfl⟩
def sp_cell (K : PySem.W.Frag) : Sp := fun vs H Q _ => ∃ (a : Addr) (ns : List Int) (j : Nat), vs = [.ref a, .int (j : Int)] ∧ SqL K H a (ns.map V.int) ∧ RetV (.int (cel ns j)) H Q
theorem spv_cell {H : Hp} {a : Addr} {ns : List Int} {j : Nat} {i : Int} (hs : SqL K H a (ns.map V.int)) (e : i = (j : Int)) : SpV (sp_cell K) [.ref a, .int i] H (.int (cel ns j)) :=
  spv fun H1 e1 Q E q => ⟨a, ns, j, by rw [e], ex_l e1 hs, q⟩
theorem ok_cell_at {f : Addr} {fd : FuncData} (T : Txt K mg) (F : Fun K "_law_cell_at" "_law_cell_at" s_cell_at f fd) : FnOk P w K mg base CX0 1 f fd ["_law_script", "_law_k"] (sp_cell K) := by
  refine F.ok sc_cell_at (fun vs H Q E h => by obtain ⟨a, ns, j, rfl, _⟩ := h; rfl) (fun cdv A outer s H vs Q E hr h => ?_)
  obtain ⟨a, ns, j, rfl, hs, q⟩ := h
  refine ⟨_, (pss_cons (ps_if (pt_cmpR op_lt (pv 1) (pe_callB call_len_seq (by rfl) T.b_len PySem.boot_len (pa_cons (pv 0) pa_nil)) (nomark _)) (pss_one (ps_ret (pe_ix ix_list (pv 0) (pv 1) (fun _ _ => rfl)))) pss_nil)
      (pss_one (ps_ret pe_int))), ?_⟩
  refine q_when (et_test (ev_op (ev_var rfl) (ev_lenL (ev_var rfl) hs) rv_I0)) (fun hb H1 e1 => ?_) (fun hb H1 e1 => ?_)
  · have hj : j < ns.length := by
      have h1 := of_decide_eq_true hb
      rw [List.length_map] at h1
      omega
    exact s_ret (ev_op (ev_var rfl) (ev_var rfl) (rv_ixL (ex_l e1 hs) (cel_in hj))) fun H2 e2 => q H2 (e1.trans e2)
  · have hj : ¬ j < ns.length := by
      have h1 := of_decide_eq_false hb
      rw [List.length_map] at h1
      omega
    rw [cel_out hj] at q
    exact s_ret ev_c fun H2 e2 => q H2 (e1.trans e2)
def sp_many : Sp := fun vs H Q _ => ∃ c : Int, vs = [.int c] ∧ RetV (.int (manyOf c)) H Q
theorem ok_many_by {f : Addr} {fd : FuncData} (T : Txt K mg) (F : Fun K "_law_many_by" "_law_many_by" s_many_by f fd) : FnOk P w K mg base CX0 1 f fd ["_law_cell"] sp_many := by
  refine F.ok sc_many_by (fun vs H Q E h => by obtain ⟨c, rfl, _⟩ := h; rfl) (fun cdv A outer s H vs Q E hr h => ?_)
  obtain ⟨c, rfl, q⟩ := h
  refine ⟨_, (pss_cons (ps_if (pt_cmpR op_eq (pe_op op_mod (pe_op op_fdiv (pv 0) pe_int) pe_int) pe_int (nomark _)) (pss_one (ps_ret (pe_op op_add pe_int (pe_op op_mod (pe_op op_fdiv (pv 0) pe_int) pe_int)))) pss_nil)
      (pss_one (ps_ret (pe_op op_add pe_int (pe_op op_mod (pv 0) pe_int))))), ?_⟩
  refine q_when (et_test (ev_op (ev_op (ev_op (ev_var rfl) ev_c (rv_fdiv (by decide))) ev_c (rv_mod (by decide))) ev_c (rv_eq rfl))) (fun hb H1 e1 => ?_) (fun hb H1 e1 => ?_)
  · have hc : c / 6 % 5 = 1 := V.int.inj (of_decide_eq_true hb)
    refine s_ret (ev_op ev_c (ev_op (ev_op (ev_var rfl) ev_c (rv_fdiv (by decide))) ev_c (rv_mod (by decide))) rv_I0) fun H2 e2 => ?_
    have := q H2 (e1.trans e2)
    unfold manyOf at this
    rw [if_pos hc] at this
    exact this
  · have hc : ¬ c / 6 % 5 = 1 := fun z => of_decide_eq_false hb (by rw [z])
    refine s_ret (ev_op ev_c (ev_op (ev_var rfl) ev_c (rv_mod (by decide))) rv_I0) fun H2 e2 => ?_
    have := q H2 (e1.trans e2)
    unfold manyOf at this
    rw [if_neg hc] at this
    exact this
def sp_signs : Sp := fun vs H Q _ => ∃ (c : Int) (m : Nat), vs = [.int c, .int (m : Int)] ∧ m ≤ 42 ∧ RetV (.str (tx (signsOf c m))) H Q
theorem ok_signs_by {f : Addr} {fd : FuncData} (T : Txt K mg) (F : Fun K "_law_signs_by" "_law_signs_by" s_signs_by f fd) : FnOk P w K mg base CX0 1 f fd ["_law_cell", "_law_many"] sp_signs := by
  refine F.ok sc_signs_by (fun vs H Q E h => by obtain ⟨c, m, rfl, _⟩ := h; rfl) (fun cdv A outer s H vs Q E hr h => ?_)
  obtain ⟨c, m, rfl, hm, q⟩ := h
  refine ⟨_, (pss_cons (ps_set (i := 2) sc_signs_by.nd rfl (Or.inr rfl) pe_str)
      (pss_cons (ps_set (i := 2) sc_signs_by.nd rfl (Or.inr rfl) (pe_op op_add_str (pv 2) pe_str))
      (pss_cons (ps_set (i := 3) sc_signs_by.nd rfl (Or.inr rfl) (pe_op op_add pe_int (pe_op op_mul pe_int (pe_op op_mod (pe_op op_fdiv (pv 0) pe_int) pe_int))))
      (pss_one (ps_ret (pe_bm PySem.F.plainAttrs_str PySem.F.slot_str_join PySem.F.type_str_join mt_join pe_str (pa_cons (pe_lc (own := [("_law_k", 4)]) (g := (gName 4)) (tt := tYes) rfl sc_signs_by.nd (pi_range1 (by rfl) T.b_range (pa_cons (pv 1) pa_nil)) (blkOk_by (N := ["_law_cell", "_law_many", "_law_some", "_law_step", "_law_k"]) (sc := defScope s_signs_by) (by decide +kernel)) (fun _ _ _ _ _ => (pg_name (i := 4) sc_signs_by.nd rfl (Or.inl rfl))) (fun _ _ _ _ _ => pts_nil) (fun _ _ _ _ _ => (pe_ix ix_str (pv 2) (pe_op op_mod (pe_op op_add (pv 0) (pe_op op_mul (pv 4) (pv 3))) pe_int) (fun _ _ => rfl)))) pa_nil))))))), ?_⟩
  refine q_asg ev_c fun H1 e1 => ?_
  refine q_asg (ev_is (ev_op (ev_var rfl) ev_c (rv_addS (by decide +kernel))) (w := .str (tx all94)) (congrArg V.str some94)) fun H2 e2 => ?_
  refine q_asg (ev_op ev_c (ev_op ev_c (ev_op (ev_op (ev_var rfl) ev_c (rv_fdiv (by decide))) ev_c (rv_mod (by decide))) (rv_mul (.inl (by decide)))) rv_I0) fun H3 e3 => ?_
  have jn := join_ones (signsOf c m)
  refine s_ret (ev_is (ev_joinN (ys := (signsOf c m).map fun c => tx [c]) (sep := tx []) ev_c ?_ ?_) (w := .str (tx (signsOf c m))) (by rw [jn])) fun H4 e4 => q H4 (((e1.trans e2).trans e3).trans e4)
  · rw [List.map_map]
    refine el_mapR _ (ea_cons (ev_var rfl) ea_nil) ⟨by omega, by omega⟩ (by simp [signsOf_len]) (fun _ => rfl) (fun i y H4 e4 hi hy => ?_)
    have ey := signs_at hy
    subst ey
    refine ev_op (ev_var rfl) (ev_op (ev_op (ev_var rfl) (ev_op (ev_var rfl) (ev_var rfl) (rv_mul (.inl ⟨by omega, by omega⟩))) rv_I0) ev_c (rv_mod (by decide))) (rv_ixS (by rw [tx_len, all94_len]; omega) (all94_at (by omega) (by omega)))
  · rw [ones_sum, signsOf_len, List.length_map, signsOf_len]
    show m + m * 0 ≤ 16777216
    omega
def sp_chkG : Sp := fun vs H Q _ => ∃ ss : List Nat, vs = [.str (tx ss)] ∧ Signs ss ∧ RetV .non H Q
theorem ok_check_signs {f : Addr} {fd : FuncData} (T : Txt K mg) (F : Fun K "check_signs" "check_signs" s_check_signs f fd) : FnOk P w K mg base CX0 1 f fd ["signs"] sp_chkG := by
  refine F.ok sc_check_signs (fun vs H Q E h => by obtain ⟨ss, rfl, _⟩ := h; rfl) (fun cdv A outer s H vs Q E hr h => ?_)
  obtain ⟨ss, rfl, ⟨h1, h2, h3, h4⟩, q⟩ := h
  refine ⟨_, (pss_cons (ps_if (PW.pt (pw_or (pt_not (pt_val (pe_callB call_isi (by rfl) T.b_isinstance (by decide +kernel) (pa_cons (pv 0) (pa_cons (pe_bltn (v := .ty "str") (by rfl) T.b_str (by decide +kernel) rfl) pa_nil))))) (pw_or1 (pt_not (pt_chain op_le op_le pe_int (pe_callB call_len_str (by rfl) T.b_len PySem.boot_len (pa_cons (pv 0) pa_nil)) (pe_globX (by rfl) T.g_MOST_SHARES)))))) (pss_one ps_never) pss_nil)
      (pss_one (ps_for PassesOwn.never rfl (pi_str (pv 0)) (pg_name (i := 1) sc_check_signs.nd rfl (Or.inl rfl)) (pss_cons (ps_if (pt_not (pt_chain op_le_str op_le_str pe_str (pv 1) pe_str)) (pss_one ps_never) pss_nil)
      (pss_one (ps_if (pt_cmpR op_gt (pe_bm PySem.F.plainAttrs_str PySem.F.slot_str_count PySem.F.type_str_count mt_count (pv 0) (pa_cons (pv 1) pa_nil)) pe_int (nomark _)) (pss_one ps_never) pss_nil)))))), ?_⟩
  refine q_when (b := false) (et_or (a := false) (et_not (a := true) (et_B (ev_isi (ev_var rfl) ev_c (fun _ _ => ty_str) (by decide +kernel)))) fun _ => et_not (a := true) (et_is (et_test (ev_chain ev_c (ev_lenZ (ev_var rfl) (by rw [tx_len]; exact sz_of (by omega))) ev_c)) ?_)) (fun hx => nomatch hx) (fun _ H1 e1 => ?_)
  · rw [tx_len, decide_eq_true (by omega), decide_eq_true (by omega)]
    rfl
  refine s_forS (ev_var rfl) (fun i σ' H' => Ex H1 H' ∧ ∃ y1, σ' = [some (.str (tx ss)), y1]) (fun H2 e2 => ⟨e2, none, rfl⟩) (fun i c σ' H' hc p => ?_) (fun σ' H' p => ?_)
  · obtain ⟨e2, y1, rfl⟩ := p
    have hm := List.mem_of_getElem? hc
    obtain ⟨g1, g2⟩ := h4 c hm
    refine q_when (b := false) (et_not (a := true) (et_is (et_test (ev_chainR (ev_is ev_c (congrArg V.str strB32)) (ev_var rfl) rv_leS (fun _ => ev_is ev_c (congrArg V.str strB126)) (fun _ => rv_leS))) ?_)) (fun hx => nomatch hx) (fun _ H3 e3 => ?_)
    · rw [decide_eq_true g1, decide_eq_true g2]
      rfl
    refine s_when (b := false) (et_is (et_test (ev_op (ev_is (ev_bmS (ev_var rfl) (ea_cons (ev_var rfl) ea_nil) (z := .int (Txt.count (tx ss) (tx [c]))) fun H2 _ Q q => ⟨_, _, rfl, rfl, q H2 (Ex.refl _)⟩) (by rw [count_one])) ev_c rv_I0)) ?_) (fun hx => nomatch hx) (fun _ H4 e4 => ?_)
    · exact decide_eq_false (by have := count_le1 h3 (c := c); omega)
    · exact ⟨(e2.trans e3).trans e4, _, rfl⟩
  · obtain ⟨e2, y1, rfl⟩ := p
    exact q H' (e1.trans e2)
def sp_Binit (mg : Str → Option Value) : Sp := fun vs H Q _ => ∃ (p dx : Addr) (B : Bk), vs = [.ref p, .str (tx B.ss), .int (B.size : Int), .int B.cap] ∧ H p = some (.ins (cadr mg "Book") dx []) ∧ BookOk B ∧ ∀ H', ExS [p] H H' → BookAt mg H' p B → Q .non H'
theorem q_book {mg : Str → Option Value} {σ : L2.St} {H : Hp} {t : TA} {D : Ends} {tz : TS} {E : XK} {i : Nat} {B : Bk} (ha : EvA t σ H [.str (tx B.ss), .int (B.size : Int), .int B.cap]) (hB : BookOk B)
    (k : ∀ b H2, H b = none → Ex H H2 → BookAt mg H2 b B → tz D (σ.set i (some (.ref b))) H2) : tSeq (tAsg (tMake (cadr mg "Book") (sp_Binit mg) [] E t) (gName i)) tz D σ H :=
  q_make ha fun H1 x dx e1 hx hd hn => ⟨x, dx, B, rfl, upd_same, hB, fun H2 e2 h2 => ⟨rfl, k x H2 (fresh_back e1 hx) (e1.trans (ex_made hx hd e2)) h2⟩⟩
theorem er_book {mg : Str → Option Value} {σ : L2.St} {H : Hp} {t : TA} {Q : VK} {E : XK} {B : Bk} (ha : EvA t σ H [.str (tx B.ss), .int (B.size : Int), .int B.cap]) (hB : BookOk B)
    (k : ∀ b H2, H b = none → Ex H H2 → BookAt mg H2 b B → Q (.ref b) H2) : tMake (cadr mg "Book") (sp_Binit mg) [] E t σ H Q :=
  er_mkr ha fun H1 x dx e1 hx hd hn => ⟨x, dx, B, rfl, upd_same, hB, fun H2 e2 h2 => ⟨rfl, k x H2 (fresh_back e1 hx) (e1.trans (ex_made hx hd e2)) h2⟩⟩
theorem ok_Book___init__ {f : Addr} {fd : FuncData} (T : Txt K mg) (F : Fun K "__init__" "Book.__init__" s_Book___init__ f fd) (C_check_signs : Cal P w K mg base "check_signs" ["signs"] 1 sp_chkG) (C_is_whole : Cal P w K mg base "is_whole" ["value", "low", "high"] 1 sp_isw) : FnOk P w K mg base CX0 2 f fd ["self", "signs", "size", "cap"] (sp_Binit mg) := by
  refine F.ok sc_Book___init__ (fun vs H Q E h => by obtain ⟨p, dx, B, rfl, _⟩ := h; rfl) (fun cdv A outer s H vs Q E hr h => ?_)
  obtain ⟨p, dx, B, rfl, hp, hB, q⟩ := h
  obtain ⟨hS, h1, h2, h3, h4⟩ := id hB
  refine ⟨_, (pss_cons (ps_expr (pe_cal C_check_signs hr (by decide) (by rfl) (pa_cons (pv 1) pa_nil)))
      (pss_cons (ps_if (pt_not (pt_val (pe_cal C_is_whole hr (by decide) (by rfl) (pa_cons (pv 2) (pa_cons pe_int (pa_cons (pe_globX (by rfl) T.g_LONGEST_BLOCK) pa_nil)))))) (pss_one ps_never) pss_nil)
      (pss_cons (ps_if (pt_not (pt_val (pe_cal C_is_whole hr (by decide) (by rfl) (pa_cons (pv 3) (pa_cons (pe_callB call_len_str (by rfl) T.b_len PySem.boot_len (pa_cons (pv 1) pa_nil)) (pa_cons (pe_globX (by rfl) T.g_GREATEST_CAP) pa_nil)))))) (pss_one ps_never) pss_nil)
      (pss_cons (ps_fld (pv 0) (pv 1) rfl)
      (pss_cons (ps_fld (pv 0) (pv 2) rfl)
      (pss_one (ps_fld (pv 0) (pv 3) rfl))))))), ?_⟩
  refine q_drop (ev_cal (ea_cons (ev_var rfl) ea_nil) (spv fun _ _ Q E q => ⟨B.ss, rfl, hS, q⟩)) fun H1 e1 => ?_
  refine q_when (b := false) (et_not (a := true) (et_B (ev_cal (ea_cons (ev_var rfl) (ea_cons ev_c (ea_cons ev_c ea_nil))) (spv fun H3 _ Q E q => ⟨(B.size : Int), 1, 99, rfl, isw_q (by omega) (by omega) q⟩)))) (fun hx => nomatch hx) (fun _ H2 e2 => ?_)
  refine q_when (b := false) (et_not (a := true) (et_B (ev_cal (ea_cons (ev_var rfl) (ea_cons (ev_lenZ (ev_var rfl) (by rw [tx_len]; have := hS.2.1; exact sz_of (by omega))) (ea_cons ev_c ea_nil))) (spv fun H3 _ Q E q => ⟨B.cap, (B.ss.length : Int), 1000000, by rw [tx_len], isw_q h3 h4 q⟩)))) (fun hx => nomatch hx) (fun _ H3 e3 => ?_)
  have e13 := (e1.trans e2).trans e3
  refine q_fld (ev_var rfl) (ev_var rfl) (e13 _ _ hp) T.cl_Book T.na_Book_signs (by show 0 < 1000; decide) fun H4 e4 => ?_
  refine q_fld (ev_var rfl) (ev_var rfl) upd_same T.cl_Book T.na_Book_size (by show 1 < 1000; decide) fun H5 e5 => ?_
  refine s_fld (ev_var rfl) (ev_var rfl) upd_same T.cl_Book T.na_Book_cap (by (repeat (first | rw [pf_eq] | rw [pf_nil] | rw [pf_ne (by decide +kernel)])); show 2 < 1000; decide) fun H6 e6 => ?_
  have hm : p ∈ [p] := by simp
  refine q _ ((((((ExS.of (e13.trans e4)).upd hm).trans (ExS.of e5)).upd hm).trans (ExS.of e6)).upd hm) ⟨dx, ?_⟩
  rw [upd_same]
  unfold bf
  repeat (first | rw [pf_eq] | rw [pf_nil] | rw [pf_ne (by decide +kernel)])
def sp_Linit (mg : Str → Option Value) : Sp := fun vs H Q _ => ∃ (l b dx : Addr) (B : Bk) (av : List Addr), vs = [.ref l, .ref b] ∧ H l = some (.ins (cadr mg "Learner") dx []) ∧ BookAt mg H b B ∧ b ≠ l ∧ BookOk B ∧ Taken H av ∧ ∀ H', ExS [l] H H' → LrnV mg H' l b (LS.start B) av → Q .non H'
theorem q_learner {mg : Str → Option Value} {σ : L2.St} {H : Hp} {t : TA} {D : Ends} {tz : TS} {E : XK} {i : Nat} {B : Bk} {b : Addr} (ha : EvA t σ H [.ref b]) (hb : BookAt mg H b B) (hB : BookOk B)
    (k : ∀ l H2, H l = none → Ex H H2 → LrnV mg H2 l b (LS.start B) [] → tz D (σ.set i (some (.ref l))) H2) : tSeq (tAsg (tMake (cadr mg "Learner") (sp_Linit mg) [] E t) (gName i)) tz D σ H :=
  q_make ha fun H1 x dx e1 hx hd hn => by
    obtain ⟨dxb, hb⟩ := hb
    have n1 : b ≠ x := ne_of_none (e1 _ _ hb) hx
    have n2 : b ≠ dx := ne_of_none (e1 _ _ hb) hd
    exact ⟨x, b, dx, B, [], rfl, upd_same, ⟨dxb, by rw [upd_ne n1, upd_ne n2]; exact e1 _ _ hb⟩, n1, hB, Taken.nil, fun H2 e2 h2 => ⟨rfl, k x H2 (fresh_back e1 hx) (e1.trans (ex_made hx hd e2)) h2⟩⟩
theorem er_learner {mg : Str → Option Value} {σ : L2.St} {H : Hp} {t : TA} {Q : VK} {E : XK} {B : Bk} {b : Addr} (ha : EvA t σ H [.ref b]) (hb : BookAt mg H b B) (hB : BookOk B) {av : List Addr} (hav : Taken H av)
    (k : ∀ l H2, H l = none → Ex H H2 → LrnV mg H2 l b (LS.start B) av → Q (.ref l) H2) : tMake (cadr mg "Learner") (sp_Linit mg) [] E t σ H Q :=
  er_mkr ha fun H1 x dx e1 hx hd hn => by
    obtain ⟨dxb, hb⟩ := hb
    have n1 : b ≠ x := ne_of_none (e1 _ _ hb) hx
    have n2 : b ≠ dx := ne_of_none (e1 _ _ hb) hd
    refine ⟨x, b, dx, B, av, rfl, upd_same, ⟨dxb, by rw [upd_ne n1, upd_ne n2]; exact e1 _ _ hb⟩, n1, hB, fun a ha => ?_, fun H2 e2 h2 => ⟨rfl, k x H2 (fresh_back e1 hx) (e1.trans (ex_made hx hd e2)) h2⟩⟩
    obtain ⟨o, ho⟩ := (hav.ex e1) a ha
    exact ⟨o, by rw [upd_ne (ne_of_none ho hx), upd_ne (ne_of_none ho hd)]; exact ho⟩
theorem ok_Learner___init__ {f : Addr} {fd : FuncData} (T : Txt K mg) (F : Fun K "__init__" "Learner.__init__" s_Learner___init__ f fd) (C_codes : Cal P w K mg base "codes" ["shares"] 4 (sp_codes K)) : FnOk P w K mg base CX0 5 f fd ["self", "book"] (sp_Linit mg) := by
  refine F.ok sc_Learner___init__ (fun vs H Q E h => by obtain ⟨l, b, dx, B, av, rfl, _⟩ := h; rfl) (fun cdv A outer s H vs Q E hr h => ?_)
  obtain ⟨l, b, dx, B, av, rfl, hl, ⟨dxb, hb⟩, hbl, hB, hav, q⟩ := h
  have hm : l ∈ [l] := by simp
  have nb : b ∉ [l] := by simpa using hbl
  have h2 := hB.1.2.1
  have hO := LS.start_ok hB
  refine ⟨_, (pss_cons (ps_fld (pv 0) (pe_op op_rep (pe_lst (pa_cons pe_int pa_nil)) (pe_callB call_len_str (by rfl) T.b_len PySem.boot_len (pa_cons (pe_fld (pv 1) rfl) pa_nil))) rfl)
      (pss_cons (ps_fld (pv 0) (pe_cal C_codes hr (by decide) (by rfl) (pa_cons (pe_fld (pv 0) rfl) pa_nil)) rfl)
      (pss_cons (ps_fld (pv 0) pe_str rfl)
      (pss_one (ps_fld (pv 0) (pv 1) rfl))))), ?_⟩
  refine q_fldL (xs := (LS.start B).ns.map V.int) (el_repI (el_lst (ea_cons ev_c ea_nil) (by decide)) (ev_is (ev_lenZ (ev_fld (ev_var rfl) hb T.cl_Book T.na_Book_signs (bf_signs B)) (by rw [tx_len]; exact sz_of (by omega))) (by rw [tx_len])) (by omega)) (ev_var rfl) hl T.cl_Learner T.na_Learner_shares (by show 0 < 1000; decide) fun sh H1 hsh e1 h1 n1 => ?_
  have x1 : ExS [l] H (upd H1 l (.ins (cadr mg "Learner") dx (putF "shares" (.ref sh) []))) := (ExS.of e1).upd hm
  have s1 : upd H1 l (.ins (cadr mg "Learner") dx (putF "shares" (.ref sh) [])) sh = some (.lst ((LS.start B).ns.map V.int)) := by rw [upd_ne n1]; exact h1
  generalize hG1 : upd H1 l (.ins (cadr mg "Learner") dx (putF "shares" (.ref sh) [])) = G1 at x1 s1
  have l1 : G1 l = some (.ins (cadr mg "Learner") dx [("shares", .ref sh)]) := by rw [← hG1, upd_same]; (repeat (first | rw [pf_eq] | rw [pf_nil] | rw [pf_ne (by decide +kernel)]))
  refine q_fldL (el_cal (ea_cons (ev_fld (ev_var rfl) l1 T.cl_Learner T.na_Learner_shares (by (repeat (first | exact lk_eq | exact lk_nil | (refine (lk_ne (by decide +kernel)).trans ?_))))) ea_nil) (spl_codes s1 hO.sh)) (ev_var rfl) l1 T.cl_Learner T.na_Learner_words (by show 1 < 1000; decide) fun wd H2 hwd e2 h2 n2 => ?_
  have n1' : sh ≠ l := n1
  have s2 := e2 _ _ s1
  refine q_fld (ev_is ev_c str0) (ev_var rfl) upd_same T.cl_Learner T.na_Learner_waits (by (repeat (first | rw [pf_eq] | rw [pf_nil] | rw [pf_ne (by decide +kernel)])); show 2 < 1000; decide) fun H3 e3 => ?_
  refine s_fld (ev_var rfl) (ev_var rfl) upd_same T.cl_Learner T.na_Learner__book (by (repeat (first | rw [pf_eq] | rw [pf_nil] | rw [pf_ne (by decide +kernel)])); show 3 < 1000; decide) fun H4 e4 => ?_
  refine q _ (((((((x1.trans (ExS.of e2)).upd hm).trans (ExS.of e3)).upd hm).trans (ExS.of e4)).upd hm)) ⟨dx, sh, wd, ?_, ?_, ?_, hav.not hsh, hav.not (x1.back hwd (by simpa using n2))⟩
  · rw [upd_same]
    unfold lf LS.start
    repeat (first | rw [pf_eq] | rw [pf_nil] | rw [pf_ne (by decide +kernel)])
  · rw [upd_ne n1']
    refine e4 _ _ ?_
    rw [upd_ne n1']
    refine e3 _ _ ?_
    rw [upd_ne n1']
    exact s2
  · rw [upd_ne n2]
    refine e4 _ _ ?_
    rw [upd_ne n2]
    refine e3 _ _ ?_
    rw [upd_ne n2]
    exact h2
def sp_learn (mg : Str → Option Value) : Sp := fun vs H Q _ => ∃ (l b : Addr) (B : Bk) (s : LS) (av : List Addr), vs = [.ref l] ∧ LrnV mg H l b s av ∧ Taken H av ∧ BookAt mg H b B ∧ b ≠ l ∧ BookOk B ∧ Shares s.ns ∧ s.ns.length = B.ss.length ∧ s.ws.length ≤ 99 ∧ ∀ H', ExS [l] H H' → LrnV mg H' l b ⟨learntF B.cap s.ns (countsOf B.ss s.ws), []⟩ av → Q .non H'
theorem ok_Learner__learn {f : Addr} {fd : FuncData} (T : Txt K mg) (F : Fun K "_learn" "Learner._learn" s_Learner__learn f fd) (C_counted : Cal P w K mg base "counted" ["signs", "block"] 1 sp_counted) (C_learnt : Cal P w K mg base "learnt" ["shares", "counts", "cap"] 3 (sp_learnt K)) (C_codes : Cal P w K mg base "codes" ["shares"] 4 (sp_codes K)) : FnOk P w K mg base CX0 5 f fd ["self"] (sp_learn mg) := by
  refine F.ok sc_Learner__learn (fun vs H Q E h => by obtain ⟨l, b, B, s, av, rfl, _⟩ := h; rfl) (fun cdv A outer s0 H vs Q E hr h => ?_)
  obtain ⟨l, b, B, s, av, rfl, ⟨dx, sh, wd, hl, hsh, hwd, _, _⟩, hav, ⟨dxb, hb⟩, hbl, hB, hS, hlen, hws, q⟩ := h
  have hm : l ∈ [l] := by simp
  have nb : b ∉ [l] := by simpa using hbl
  obtain ⟨⟨_, h2, _⟩, _, _, hc1, hc2⟩ := id hB
  have hC : Counts (countsOf B.ss s.ws) s.ns.length := counts_okB hlen hws
  have hc : (s.ns.length : Int) ≤ B.cap := by rw [hlen]; exact hc1
  have hLS := learntF_shares hS hC hc hc2
  refine ⟨_, (pss_cons (ps_set (i := 1) sc_Learner__learn.nd rfl (Or.inl rfl) (pe_cal C_counted hr (by decide) (by rfl) (pa_cons (pe_fld (pe_fld (pv 0) rfl) rfl) (pa_cons (pe_fld (pv 0) rfl) pa_nil))))
      (pss_cons (ps_fld (pv 0) (pe_cal C_learnt hr (by decide) (by rfl) (pa_cons (pe_fld (pv 0) rfl) (pa_cons (pv 1) (pa_cons (pe_fld (pe_fld (pv 0) rfl) rfl) pa_nil)))) rfl)
      (pss_cons (ps_fld (pv 0) (pe_cal C_codes hr (by decide) (by rfl) (pa_cons (pe_fld (pv 0) rfl) pa_nil)) rfl)
      (pss_one (ps_fld (pv 0) pe_str rfl))))), ?_⟩
  refine q_asgL (el_cal (ea_cons (ev_fld (ev_fld (ev_var rfl) hl T.cl_Learner T.na_Learner__book (lf_book _ _ _ _)) hb T.cl_Book T.na_Book_signs (bf_signs B)) (ea_cons (ev_fld (ev_var rfl) hl T.cl_Learner T.na_Learner_waits (lf_waits _ _ _ _)) ea_nil)) (spl fun _ _ Q E q => ⟨B.ss, s.ws, rfl, by omega, q⟩)) fun ct H1 hct e1 h1 => ?_
  have l1 := e1 _ _ hl
  have b1 := e1 _ _ hb
  have sh1 := e1 _ _ hsh
  refine q_fldL (xs := (learntF B.cap s.ns (countsOf B.ss s.ws)).map V.int) (el_cal (ea_cons (ev_fld (ev_var rfl) l1 T.cl_Learner T.na_Learner_shares (lf_shares _ _ _ _)) (ea_cons (ev_var rfl) (ea_cons (ev_fld (ev_fld (ev_var rfl) l1 T.cl_Learner T.na_Learner__book (lf_book _ _ _ _)) b1 T.cl_Book T.na_Book_cap (bf_cap B)) ea_nil))) (spl fun H2 e2 Q E q => ⟨sh, ct, s.ns, countsOf B.ss s.ws, _, B.cap, rfl, e2 _ _ sh1, e2 _ _ h1, hS, hC, hc, hc2, learntF_ok hS hC hc, q⟩)) (ev_var rfl) l1 T.cl_Learner T.na_Learner_shares (lf_len _ _ _ _) fun x H2 hx e2 h2 n2 => ?_
  rw [lf_put_shares]
  have x2 : ExS [l] H (upd H2 l (.ins (cadr mg "Learner") dx (lf x wd s.ws b))) := (ExS.of (e1.trans e2)).upd hm
  have s2 : upd H2 l (.ins (cadr mg "Learner") dx (lf x wd s.ws b)) x = some (.lst ((learntF B.cap s.ns (countsOf B.ss s.ws)).map V.int)) := by rw [upd_ne n2]; exact h2
  have l2 : upd H2 l (.ins (cadr mg "Learner") dx (lf x wd s.ws b)) l = some (.ins (cadr mg "Learner") dx (lf x wd s.ws b)) := upd_same
  generalize upd H2 l (.ins (cadr mg "Learner") dx (lf x wd s.ws b)) = G2 at x2 s2 l2
  refine q_fldL (el_cal (ea_cons (ev_fld (ev_var rfl) l2 T.cl_Learner T.na_Learner_shares (lf_shares _ _ _ _)) ea_nil) (spl_codes s2 hLS)) (ev_var rfl) l2 T.cl_Learner T.na_Learner_words (lf_len _ _ _ _) fun y H3 hy e3 h3 n3 => ?_
  rw [lf_put_words]
  refine s_fld (ev_is ev_c str0) (ev_var rfl) upd_same T.cl_Learner T.na_Learner_waits (lf_len _ _ _ _) fun H4 e4 => ?_
  rw [lf_put_waits]
  refine q _ ((((x2.trans (ExS.of e3)).upd hm).trans (ExS.of e4)).upd hm) ⟨dx, x, y, upd_same, ?_, ?_, hav.not (fresh_back e1 hx), hav.not (x2.back hy (by simpa using n3))⟩
  · rw [upd_ne n2]
    refine e4 _ _ ?_
    rw [upd_ne n2]
    exact e3 _ _ s2
  · rw [upd_ne n3]
    refine e4 _ _ ?_
    rw [upd_ne n3]
    exact h3
def sp_took (mg : Str → Option Value) : Sp := fun vs H Q _ => ∃ (l b : Addr) (B : Bk) (s : LS) (c : Nat) (av : List Addr), vs = [.ref l, .str (tx [c])] ∧ LrnV mg H l b s av ∧ Taken H av ∧ BookAt mg H b B ∧ b ≠ l ∧ BookOk B ∧ s.Ok B ∧ c ∈ B.ss ∧ ∀ H', ExS [l] H H' → LrnV mg H' l b (s.step B c) av → Q .non H'
theorem ok_Learner_took {f : Addr} {fd : FuncData} (T : Txt K mg) (F : Fun K "took" "Learner.took" s_Learner_took f fd) (M_Learner__learn : Met P w K mg base "Learner" "_learn" ["self"] 5 (sp_learn mg)) : FnOk P w K mg base CX0 6 f fd ["self", "sign"] (sp_took mg) := by
  refine F.ok sc_Learner_took (fun vs H Q E h => by obtain ⟨l, b, B, s, c, av, rfl, _⟩ := h; rfl) (fun cdv A outer s0 H vs Q E hr h => ?_)
  obtain ⟨l, b, B, s, c, av, rfl, ⟨dx, sh, wd, hl, hsh, hwd, hv1, hv2⟩, hav, ⟨dxb, hb⟩, hbl, hB, hO, hc, q⟩ := h
  have hm : l ∈ [l] := by simp
  have nb : b ∉ [l] := by simpa using hbl
  obtain ⟨⟨_, h2, _⟩, hz1, hz2, _⟩ := id hB
  have hw := hO.ws
  refine ⟨_, (pss_cons (ps_if (pt_cmpR op_notIn_seq (pv 1) (pe_callTy (call_listZ rfl) (by rfl) T.b_list (by decide +kernel) (pa_cons (pe_fld (pe_fld (pv 0) rfl) rfl) pa_nil)) (by rfl)) (pss_one ps_never) pss_nil)
      (pss_cons (ps_fldaug (pv 0) (pv 1) in_addS)
      (pss_one (ps_if (pt_cmpR op_eq (pe_callB call_len_str (by rfl) T.b_len PySem.boot_len (pa_cons (pe_fld (pv 0) rfl) pa_nil)) (pe_fld (pe_fld (pv 0) rfl) rfl) (nomark _)) (pss_one (ps_expr (pe_met0 M_Learner__learn hr (by decide) (pv 0)))) pss_nil)))), ?_⟩
  refine q_when (b := false) (et_is (et_test (ev_niZ (c := c) (ev_var rfl) (el_listZ (ev_fld (ev_fld (ev_var rfl) hl T.cl_Learner T.na_Learner__book (lf_book _ _ _ _)) hb T.cl_Book T.na_Book_signs (bf_signs B)) (by omega)))) (by rw [decide_eq_true hc]; rfl)) (fun hx => nomatch hx) (fun _ H1 e1 => ?_)
  have l1 := e1 _ _ hl
  have b1 := e1 _ _ hb
  refine q_faugS (a := s.ws) (b := [c]) (ev_var rfl) l1 T.cl_Learner T.na_Learner_waits (lf_waits _ _ _ _) (ev_var rfl) (by simp; omega) (lf_len _ _ _ _) fun H2 e2 => ?_
  rw [lf_put_waits]
  have x2 : ExS [l] H (upd H2 l (.ins (cadr mg "Learner") dx (lf sh wd (s.ws ++ [c]) b))) := (ExS.of (e1.trans e2)).upd hm
  have a2 : LrnV mg (upd H2 l (.ins (cadr mg "Learner") dx (lf sh wd (s.ws ++ [c]) b))) l b ⟨s.ns, s.ws ++ [c]⟩ av := by
    refine ⟨dx, sh, wd, upd_same, ?_, ?_, hv1, hv2⟩
    · rw [upd_ne (ne_of hsh hl fun z => nomatch z)]
      exact e2 _ _ (e1 _ _ hsh)
    · rw [upd_ne (ne_of hwd hl fun z => nomatch z)]
      exact e2 _ _ (e1 _ _ hwd)
  generalize upd H2 l (.ins (cadr mg "Learner") dx (lf sh wd (s.ws ++ [c]) b)) = G2 at x2 a2
  have b2 := x2.at hb nb
  obtain ⟨dx', sh', wd', l2, hsh2, hwd2, _⟩ := id a2
  have hav2 := hav.exS x2 (Taken.one l2)
  have hl2 : (s.ws ++ [c]).length = s.ws.length + 1 := by simp
  refine s_when (b := decide ((s.ws ++ [c]).length = B.size)) (et_is (et_test (ev_op (ev_lenZ (ev_fld (ev_var rfl) l2 T.cl_Learner T.na_Learner_waits (lf_waits _ _ _ _)) (by rw [tx_len]; exact sz_of (by show (s.ws ++ [c]).length ≤ 100000; omega))) (ev_fld (ev_fld (ev_var rfl) l2 T.cl_Learner T.na_Learner__book (lf_book _ _ _ _)) b2 T.cl_Book T.na_Book_size (bf_size B)) (rv_eq rfl))) ?_) (fun hx H3 e3 => ?_) (fun hx H3 e3 => ?_)
  · rw [tx_len]
    show decide (V.int (((s.ws ++ [c]).length : Nat) : Int) = V.int (B.size : Int)) = _
    exact decide_eq_decide.mpr ⟨fun h => by have := V.int.inj h; omega, fun h => by rw [h]⟩
  · have hx := of_decide_eq_true hx
    refine er_met (ev_var rfl) (e3 _ _ l2) (by unfold lf; (repeat (first | exact lk_eq | exact lk_nil | (refine (lk_ne (by decide +kernel)).trans ?_)))) ea_nil fun H4 e4 => ?_
    have e34 := e3.trans e4
    refine ⟨l, b, B, ⟨s.ns, s.ws ++ [c]⟩, av, rfl, a2.ex e34, hav2.ex e34, ⟨dxb, e34 _ _ b2⟩, hbl, hB, hO.sh, hO.len, by show (s.ws ++ [c]).length ≤ 99; omega, fun H5 e5 a5 => ?_⟩
    refine q H5 ((x2.trans (ExS.of e34)).trans e5) ?_
    unfold LS.step
    rw [if_pos hx]
    exact a5
  · have hx := of_decide_eq_false hx
    refine q H3 (x2.trans (ExS.of e3)) ?_
    unfold LS.step
    rw [if_neg hx]
    exact a2.ex e3
def sp_chkT : Sp := fun vs H Q _ => ∃ ss ts : List Nat, vs = [.str (tx ss), .str (tx ts)] ∧ (∀ c ∈ ts, c ∈ ss) ∧ RetV .non H Q
theorem ok_check_text {f : Addr} {fd : FuncData} (T : Txt K mg) (F : Fun K "check_text" "check_text" s_check_text f fd) : FnOk P w K mg base CX0 1 f fd ["signs", "text"] sp_chkT := by
  refine F.ok sc_check_text (fun vs H Q E h => by obtain ⟨ss, ts, rfl, _⟩ := h; rfl) (fun cdv A outer s H vs Q E hr h => ?_)
  obtain ⟨ss, ts, rfl, hm, q⟩ := h
  refine ⟨_, (pss_one (ps_for PassesOwn.never rfl (pi_str (pv 1)) (pg_name (i := 2) sc_check_text.nd rfl (Or.inl rfl)) (pss_one (ps_if (pt_cmpR op_notIn_sign (pv 2) (pv 0) (by rfl)) (pss_one ps_never) pss_nil)))), ?_⟩
  refine s_forS (ev_var rfl) (fun i σ' H' => Ex H H' ∧ ∃ y1, σ' = [some (.str (tx ss)), some (.str (tx ts)), y1]) (fun H2 e2 => ⟨e2, none, rfl⟩) (fun i c σ' H' hc p => ?_) (fun σ' H' p => ?_)
  · obtain ⟨e2, y1, rfl⟩ := p
    refine s_when (b := false) (et_is (et_test (ev_op (ev_var rfl) (ev_var rfl) (rv_niS (c := c) (l := ss)))) ?_) (fun hx => nomatch hx) (fun _ H3 e3 => ⟨e2.trans e3, _, rfl⟩)
    rw [decide_eq_true (hm c (List.mem_of_getElem? hc))]
    rfl
  · obtain ⟨e2, y1, rfl⟩ := p
    exact q H' e2
def pf (l : Addr) (ss : List Nat) : List (Str × V) := [("learner", .ref l), ("_signs", .str (tx ss))]
theorem pf_learner (l : Addr) (ss : List Nat) : (pf l ss).lookup ("learner" : Str) = some (.ref l) := by unfold pf; (repeat (first | exact lk_eq | exact lk_nil | (refine (lk_ne (by decide +kernel)).trans ?_)))
theorem pf_signs (l : Addr) (ss : List Nat) : (pf l ss).lookup ("_signs" : Str) = some (.str (tx ss)) := by unfold pf; (repeat (first | exact lk_eq | exact lk_nil | (refine (lk_ne (by decide +kernel)).trans ?_)))
/-- a packer: its learner is another object -/
def PckAt (mg : Str → Option Value) (H : Hp) (p l b : Addr) (B : Bk) (s : LS) (av : List Addr) : Prop := ∃ dx, H p = some (.ins (cadr mg "Packer") dx (pf l B.ss)) ∧ LrnV mg H l b s av ∧ p ≠ l ∧ b ≠ l ∧ b ≠ p
def sp_Pinit (mg : Str → Option Value) : Sp := fun vs H Q _ => ∃ (p b dx : Addr) (B : Bk) (av : List Addr), vs = [.ref p, .ref b] ∧ H p = some (.ins (cadr mg "Packer") dx []) ∧ BookAt mg H b B ∧ b ≠ p ∧ BookOk B ∧ Taken H av ∧ ∀ l H', H l = none → ExS [p] H H' → PckAt mg H' p l b B (LS.start B) av → Q .non H'
theorem taken_made {H1 : Hp} {av : List Addr} {x dx C : Addr} {fs : List (Str × V)} (h : Taken H1 av) (hx : H1 x = none) (hd : H1 dx = none) : Taken (upd (upd H1 dx (.own x)) x (.ins C dx fs)) av := fun a ha => by
  obtain ⟨o, h⟩ := h a ha
  have n1 : a ≠ x := ne_of_none h hx
  have n2 : a ≠ dx := ne_of_none h hd
  exact ⟨o, by rw [upd_ne n1, upd_ne n2]; exact h⟩
theorem q_packer {mg : Str → Option Value} {σ : L2.St} {H : Hp} {t : TA} {Q : VK} {E : XK} {B : Bk} {b : Addr} (ha : EvA t σ H [.ref b]) (hb : BookAt mg H b B) (hB : BookOk B) {av : List Addr} (hav : Taken H av)
    (k : ∀ p l H2, H p = none → H l = none → Ex H H2 → PckAt mg H2 p l b B (LS.start B) av → Q (.ref p) H2) : tMake (cadr mg "Packer") (sp_Pinit mg) [] E t σ H Q :=
  er_mkr ha fun H1 x dx e1 hx hd hn => by
    obtain ⟨dxb, hb⟩ := hb
    have n1 : b ≠ x := ne_of_none (e1 _ _ hb) hx
    have n2 : b ≠ dx := ne_of_none (e1 _ _ hb) hd
    refine ⟨x, b, dx, B, av, rfl, upd_same, ⟨dxb, by rw [upd_ne n1, upd_ne n2]; exact e1 _ _ hb⟩, n1, hB, taken_made (hav.ex e1) hx hd, fun l H2 hl e2 h2 => ⟨rfl, k x l H2 (fresh_back e1 hx) (fresh_back e1 ?_) (e1.trans (ex_made hx hd e2)) h2⟩⟩
    have n3 : l ≠ x := fun z => by rw [z, upd_same] at hl; cases hl
    rw [upd_ne n3] at hl
    have n4 : l ≠ dx := fun z => by rw [z, upd_same] at hl; cases hl
    rw [upd_ne n4] at hl
    exact hl
theorem ok_Packer___init__ {f : Addr} {fd : FuncData} (T : Txt K mg) (F : Fun K "__init__" "Packer.__init__" s_Packer___init__ f fd) (N_Learner : Mkr P w K mg base "Learner" ["self", "book"] 5 (sp_Linit mg)) : FnOk P w K mg base CX0 7 f fd ["self", "book"] (sp_Pinit mg) := by
  refine F.ok sc_Packer___init__ (fun vs H Q E h => by obtain ⟨p, b, dx, B, av, rfl, _⟩ := h; rfl) (fun cdv A outer s H vs Q E hr h => ?_)
  obtain ⟨p, b, dx, B, av, rfl, hp, hb, hbp, hB, hav, q⟩ := h
  have hm : p ∈ [p] := by simp
  refine ⟨_, (pss_cons (ps_fld (pv 0) (pe_mkr N_Learner hr (by decide) (by rfl) (pa_cons (pv 1) pa_nil)) rfl)
      (pss_one (ps_fld (pv 0) (pe_fld (pv 1) rfl) rfl))), ?_⟩
  refine q_fldM (i := 0) (ea_cons (ev_var rfl) ea_nil) rfl fun H1 x dxl e1 hx hd hn => ?_
  obtain ⟨dxb, hb⟩ := hb
  have n1 : b ≠ x := ne_of_none (e1 _ _ hb) hx
  have n2 : b ≠ dxl := ne_of_none (e1 _ _ hb) hd
  have px : p ≠ x := ne_of_none (e1 _ _ hp) hx
  refine ⟨x, b, dxl, B, av, rfl, upd_same, ⟨dxb, by rw [upd_ne n1, upd_ne n2]; exact e1 _ _ hb⟩, n1, hB, taken_made (hav.ex e1) hx hd, fun H2 e2 a2 => ⟨rfl, _, dx, [], (e1.trans (ex_made hx hd e2)) _ _ hp, T.cl_Packer, T.na_Packer_learner, by show 0 < 1000; decide, ?_⟩⟩
  have e12 := e1.trans (ex_made hx hd e2)
  have b2 := e12 _ _ hb
  have nbp : b ∉ [p] := by simpa using hbp
  have nxp : x ∉ [p] := by simpa using Ne.symm px
  have p2 := e12 _ _ hp
  have x3 : ExS [p] H2 (upd H2 p (.ins (cadr mg "Packer") dx (putF "learner" (.ref x) []))) := ExS.refl.upd hm
  have p3 : upd H2 p (.ins (cadr mg "Packer") dx (putF "learner" (.ref x) [])) p = some (.ins (cadr mg "Packer") dx (putF "learner" (.ref x) [])) := upd_same
  have a3 := a2.exS x3 nxp (InsAt.one p2)
  have b3 := x3.at b2 nbp
  generalize upd H2 p (.ins (cadr mg "Packer") dx (putF "learner" (.ref x) [])) = G at x3 p3 a3 b3
  refine s_fld (ev_fld (ev_var rfl) b3 T.cl_Book T.na_Book_signs (bf_signs B)) (ev_var rfl) p3 T.cl_Packer T.na_Packer__signs (by (repeat (first | rw [pf_eq] | rw [pf_nil] | rw [pf_ne (by decide +kernel)])); show 1 < 1000; decide) fun H4 e4 => ?_
  have x5 : ExS [p] H4 (upd H4 p (.ins (cadr mg "Packer") dx (putF "_signs" (.str (tx B.ss)) (putF "learner" (.ref x) [])))) := ExS.refl.upd hm
  refine q x _ (fresh_back e1 hx) (((ExS.of (ms := [p]) e12).trans (x3.trans (ExS.of e4))).trans x5) ⟨dx, ?_, (a3.ex e4).exS x5 nxp (InsAt.one (e4 _ _ p3)), px, n1, hbp⟩
  rw [upd_same]
  unfold pf
  (repeat (first | rw [pf_eq] | rw [pf_nil] | rw [pf_ne (by decide +kernel)]))
theorem PckAt.lrn {mg : Str → Option Value} {H : Hp} {p l b : Addr} {B : Bk} {s : LS} {av : List Addr} (h : PckAt mg H p l b B s av) : LrnV mg H l b s av := by
  obtain ⟨dx, _, h, _⟩ := h
  exact h
theorem PckAt.exS {mg : Str → Option Value} {H H' : Hp} {p l b : Addr} {B : Bk} {s s' : LS} {av aw ms : List Addr} (h : PckAt mg H p l b B s av) (e : ExS ms H H') (n : p ∉ ms) (a : LrnV mg H' l b s' aw) : PckAt mg H' p l b B s' aw := by
  obtain ⟨dx, h1, _, h2, h3⟩ := h
  exact ⟨dx, e _ _ n h1, a, h2, h3⟩
theorem PckAt.ex {mg : Str → Option Value} {H H' : Hp} {p l b : Addr} {B : Bk} {s : LS} {av : List Addr} (h : PckAt mg H p l b B s av) (e : Ex H H') : PckAt mg H' p l b B s av := by
  obtain ⟨dx, h1, h0, h2⟩ := h
  exact ⟨dx, e _ _ h1, h0.ex e, h2⟩
theorem PckAt.av {mg : Str → Option Value} {H : Hp} {p l b : Addr} {B : Bk} {s : LS} {av aw : List Addr} (h : PckAt mg H p l b B s av) (a : LrnV mg H l b s aw) : PckAt mg H p l b B s aw := by
  obtain ⟨dx, h1, _, h2⟩ := h
  exact ⟨dx, h1, a, h2⟩
def sp_Pput (mg : Str → Option Value) : Sp := fun vs H Q _ => ∃ (p l b : Addr) (B : Bk) (s : LS) (ts : List Nat) (av : List Addr), vs = [.ref p, .str (tx ts)] ∧ PckAt mg H p l b B s av ∧ Taken H av ∧ BookAt mg H b B ∧ BookOk B ∧ s.Ok B ∧ (∀ c ∈ ts, c ∈ B.ss) ∧ ts.length ≤ 2000 ∧
  ∀ H', ExS [l] H H' → PckAt mg H' p l b B (s.steps B ts) av → Q (.str (tx (packF B s ts))) H'
theorem ok_Packer_put {f : Addr} {fd : FuncData} (T : Txt K mg) (F : Fun K "put" "Packer.put" s_Packer_put f fd) (C_check_text : Cal P w K mg base "check_text" ["signs", "text"] 1 sp_chkT) (M_Learner_took : Met P w K mg base "Learner" "took" ["self", "sign"] 6 (sp_took mg)) : FnOk P w K mg base CX0 7 f fd ["self", "part"] (sp_Pput mg) := by
  refine F.ok sc_Packer_put (fun vs H Q E h => by obtain ⟨p, l, b, B, s, ts, av, rfl, _⟩ := h; rfl) (fun cdv A outer s0 H vs Q E hr h => ?_)
  obtain ⟨p, l, b, B, s, ts, av, rfl, hP, hav, hb, hB, hO, hm, hlen, q⟩ := h
  obtain ⟨dx, hp, hl, hpl, hbl, hbp⟩ := id hP
  refine ⟨_, (pss_cons (ps_expr (pe_cal C_check_text hr (by decide) (by rfl) (pa_cons (pe_fld (pv 0) rfl) (pa_cons (pv 1) pa_nil))))
      (pss_cons (ps_set (i := 2) sc_Packer_put.nd rfl (Or.inl rfl) (pe_lst pa_nil))
      (pss_cons (ps_for PassesOwn.never rfl (pi_str (pv 1)) (pg_name (i := 3) sc_Packer_put.nd rfl (Or.inl rfl)) (pss_cons (ps_expr (pe_bm PySem.F.plainAttrs_list PySem.F.slot_list_append PySem.F.type_list_append mt_append (pv 2) (pa_cons (pe_ix ix_list (pe_fld (pe_fld (pv 0) rfl) rfl) (pe_bm PySem.F.plainAttrs_str PySem.F.slot_str_index PySem.F.type_str_index mt_sindex (pe_fld (pv 0) rfl) (pa_cons (pv 3) pa_nil)) (fun _ _ => rfl)) pa_nil)))
      (pss_one (ps_expr (pe_met M_Learner_took hr (by decide) (pe_fld (pv 0) rfl) (pa_cons (pv 3) pa_nil))))))
      (pss_one (ps_ret (pe_bm PySem.F.plainAttrs_str PySem.F.slot_str_join PySem.F.type_str_join mt_join pe_str (pa_cons (pv 2) pa_nil))))))), ?_⟩
  refine q_drop (ev_cal (ea_cons (ev_fld (ev_var rfl) hp T.cl_Packer T.na_Packer__signs (pf_signs _ _)) (ea_cons (ev_var rfl) ea_nil)) (spv fun _ _ Q E q => ⟨B.ss, ts, rfl, hm, q⟩)) fun H1 e1 => ?_
  refine q_asgL (el_lst ea_nil (by decide)) fun r H2 hr2 e2 h2 => ?_
  have e12 := e1.trans e2
  have P2 : PckAt mg H2 p l b B s (r :: av) := (hP.ex e12).av (((hl.ex e1).cons hr2).ex e2)
  have v2 : Taken H2 (r :: av) := (hav.ex e12).cons h2
  have b2 := hb.ex e12
  have nrl : r ≠ l := fun z => by
    obtain ⟨C, dx, fs, h⟩ := hl.ins
    rw [z, e1 _ _ h] at hr2
    cases hr2
  have npr : p ≠ r := fun z => by rw [← z, e1 _ _ hp] at hr2; cases hr2
  have nbr : b ≠ r := fun z => by
    obtain ⟨dxb, hb⟩ := hb
    rw [← z, e1 _ _ hb] at hr2
    cases hr2
  have S1 := hB.1.2.1
  refine q_forS (ev_var rfl) (fun i σ' H' => ∃ y, σ' = [some (.ref p), some (.str (tx ts)), some (.ref r), y] ∧ ExS [l, r] H2 H' ∧ PckAt mg H' p l b B (s.steps B (ts.take i)) (r :: av) ∧ Taken H' (r :: av) ∧ H' r = some (.lst (wv (packL B s (ts.take i))))) (fun H3 e3 => ⟨_, rfl, ExS.of e3, P2.ex e3, v2.ex e3, e3 _ _ h2⟩) (fun i c σ' H' hc inv => ?_) (fun σ' H' inv => ?_)
  · have hcm := hm c (List.mem_of_getElem? hc)
    have htk : ts.take (i + 1) = ts.take i ++ [c] := by rw [List.take_add_one, hc]; rfl
    have hst : s.steps B (ts.take (i + 1)) = (s.steps B (ts.take i)).step B c := by rw [htk]; exact LS.steps_snoc _ _ _ _
    have hpk : packL B s (ts.take (i + 1)) = packL B s (ts.take i) ++ [code1 B (s.steps B (ts.take i)) c] := by rw [htk, packL_app]; rfl
    rw [hst, hpk]
    have hil : (packL B s (ts.take i)).length ≤ 2000 := by rw [packL_len, List.length_take]; omega
    have hO' := LS.steps_ok hB (ts.take i) _ hO
    generalize s.steps B (ts.take i) = s' at inv hO' ⊢
    generalize packL B s (ts.take i) = D at inv hil ⊢
    obtain ⟨y, rfl, x', P', v', r'⟩ := inv
    obtain ⟨dx', p', a', _⟩ := id P'
    obtain ⟨dxl, shl, wdl, il, h3, h4, h5, h6⟩ := id a'
    have b' : BookAt mg H' b B := b2.exS x' (by simp [hbl, nbr])
    have hcode := code1_get hO' hcm
    have hix : atI (wv (HF.codes s'.ns)) ((B.ss.idxOf c : Nat) : Int) = some (.str (tx (code1 B s' c))) := by
      refine atI_nat ?_
      unfold wv
      rw [List.getElem?_map, hcode]
      rfl
    refine q_app (xs := wv D) r' (ev_var rfl) (ev_op (ev_fld (ev_fld (ev_var rfl) p' T.cl_Packer T.na_Packer_learner (pf_learner _ _)) il T.cl_Learner T.na_Learner_words (lf_words _ _ _ _)) (ev_idxS (ev_fld (ev_var rfl) p' T.cl_Packer T.na_Packer__signs (pf_signs _ _)) (ea_cons (ev_var rfl) ea_nil) hcm) (rv_ixL (sq_of h4) hix)) (by rw [wv_len]; omega) fun H3 e3 => ?_
    have x4 : ExS [r] H3 (upd H3 r (.lst (wv D ++ [.str (tx (code1 B s' c))]))) := ExS.refl.upd (by simp)
    have r4 : upd H3 r (.lst (wv D ++ [.str (tx (code1 B s' c))])) r = some (.lst (wv (D ++ [code1 B s' c]))) := by
      rw [upd_same]
      unfold wv
      rw [List.map_append]
      rfl
    generalize upd H3 r (.lst (wv D ++ [.str (tx (code1 B s' c))])) = H4 at x4 r4
    have nlr : l ∉ [r] := by simpa using Ne.symm nrl
    have a4 := (a'.ex e3).mut x4 nlr (by simp)
    have b4 := (b'.ex e3).exS x4 (by simpa using nbr)
    have v4 := (v'.ex e3).exS x4 (Taken.one r4)
    have p4 := x4 _ _ (by simpa using npr) (e3 _ _ p')
    obtain ⟨dxl2, shl2, wdl2, il2, _⟩ := id a4
    refine er_met (ev_fld (ev_var rfl) p4 T.cl_Packer T.na_Packer_learner (pf_learner _ _)) il2 (by unfold lf; (repeat (first | exact lk_eq | exact lk_nil | (refine (lk_ne (by decide +kernel)).trans ?_)))) (ea_cons (ev_var rfl) ea_nil) fun H5 e5 => ?_
    refine ⟨l, b, B, s', c, r :: av, rfl, a4.ex e5, v4.ex e5, b4.ex e5, hbl, hB, hO', hcm, fun H6 x6 a6 => ?_⟩
    have m1 : ∀ a ∈ [r], a ∈ [l, r] := by simp
    have m2 : ∀ a ∈ [l], a ∈ [l, r] := by simp
    refine ⟨_, rfl, ((x'.trans (ExS.of e3)).trans (x4.mono m1)).trans ((ExS.of e5).trans (x6.mono m2)), (P'.exS ((((ExS.of (ms := [l, r]) e3)).trans (x4.mono m1)).trans ((ExS.of e5).trans (x6.mono m2))) (by simp [hpl, npr]) a6), (v4.ex e5).exS x6 a6.taken, x6 _ _ (by simpa using nrl) (e5 _ _ r4)⟩
  · obtain ⟨y, rfl, x', P', v', r'⟩ := inv
    rw [List.take_length] at P' r'
    refine s_ret (ev_is (ev_joinL (sep := tx []) (ev_is ev_c str0) (ev_var rfl) (by rw [← wv_wz]; exact sq_of r') (by
      have := packL_sizes hB ts s hO hm
      show _ + (wz (packL B s ts)).length * 0 ≤ 16777216
      omega)) (w := .str (tx (packF B s ts))) (by rw [join_words]; rfl)) fun H3 e3 => ?_
    refine q H3 (fun a o n h => e3 _ _ (x' _ _ ?_ (e12 _ _ h))) ((P'.ex e3).av ((P'.lrn.ex e3).sub fun a ha => List.mem_cons_of_mem _ ha))
    intro z
    rcases List.mem_cons.mp z with z | z
    · exact n (by rw [z]; simp)
    · rw [List.mem_singleton.mp z] at h
      rw [e1 _ _ h] at hr2
      cases hr2
def sp_pack (mg : Str → Option Value) : Sp := fun vs H Q _ => ∃ (b : Addr) (B : Bk) (ts : List Nat), vs = [.ref b, .str (tx ts)] ∧ BookAt mg H b B ∧ BookOk B ∧ (∀ c ∈ ts, c ∈ B.ss) ∧ ts.length ≤ 2000 ∧ RetV (.str (tx (packF B (LS.start B) ts))) H Q
theorem spv_pack {mg : Str → Option Value} {H : Hp} {b : Addr} {B : Bk} {ts : List Nat} (hb : BookAt mg H b B) (hB : BookOk B) (hm : ∀ c ∈ ts, c ∈ B.ss) (hl : ts.length ≤ 2000) : SpV (sp_pack mg) [.ref b, .str (tx ts)] H (.str (tx (packF B (LS.start B) ts))) :=
  spv fun H1 e1 Q E q => ⟨b, B, ts, rfl, hb.ex e1, hB, hm, hl, q⟩
theorem ok_pack {f : Addr} {fd : FuncData} (T : Txt K mg) (F : Fun K "pack" "pack" s_pack f fd) (M_Packer_put : Met P w K mg base "Packer" "put" ["self", "part"] 7 (sp_Pput mg)) (N_Packer : Mkr P w K mg base "Packer" ["self", "book"] 7 (sp_Pinit mg)) : FnOk P w K mg base CX0 9 f fd ["book", "text"] (sp_pack mg) := by
  refine F.ok sc_pack (fun vs H Q E h => by obtain ⟨b, B, ts, rfl, _⟩ := h; rfl) (fun cdv A outer s H vs Q E hr h => ?_)
  obtain ⟨b, B, ts, rfl, hb, hB, hm, hlen, q⟩ := h
  refine ⟨_, (pss_one (ps_ret (pe_met M_Packer_put hr (by decide) (pe_mkr N_Packer hr (by decide) (by rfl) (pa_cons (pv 0) pa_nil)) (pa_cons (pv 1) pa_nil)))), ?_⟩
  refine s_retQ (er_of (q_packer (ea_cons (ev_var rfl) ea_nil) hb hB Taken.nil fun p l H2 hp hl e2 P2 => ?_))
  obtain ⟨dx, p2, _⟩ := id P2
  refine ⟨p, dx, _, rfl, p2, by unfold pf; (repeat (first | exact lk_eq | exact lk_nil | (refine (lk_ne (by decide +kernel)).trans ?_))), _, rfl, p, l, b, B, LS.start B, ts, [], rfl, P2, Taken.nil, hb.ex e2, hB, LS.start_ok hB, hm, hlen, fun H3 x3 P3 => q H3 (x3.ex e2 (by simpa using hl))⟩
theorem strB01 : PySem.Str.ofString "01" = tx [48, 49] := by decide +kernel
def BitsB (bs : List Nat) : Bool := bs.all fun b => decide (b = 48 ∨ b = 49)
def sp_xB (mg : Str → Option Value) : Sp := fun vs H Q E => ∃ bs : List Nat, vs = [.str (tx bs)] ∧ RetX mg (if BitsB bs then .ok .non else .bad "BadBit") H Q E
theorem ok_check_bits {f : Addr} {fd : FuncData} (T : Txt K mg) (F : Fun K "check_bits" "check_bits" s_check_bits f fd) : FnOk P w K mg base (L2.CX P w) 1 f fd ["bits"] (sp_xB mg) := by
  refine F.okX sc_check_bits (fun vs H Q E h => by obtain ⟨bs, rfl, _⟩ := h; rfl) (fun cdv A outer s H vs Q E hr h => ?_)
  obtain ⟨bs, rfl, q⟩ := h
  refine ⟨_, (pss_one (ps_for (passes_of rfl) rfl (pi_str (pv 0)) (pg_name (i := 1) sc_check_bits.nd rfl (Or.inl rfl)) (pss_one (ps_if (pt_cmpR op_notIn_sign (pv 1) pe_str (by rfl)) (pss_one (ps_err T.ex_BadBit rfl (takes_of rfl rfl rfl rfl) (by rfl))) pss_nil)))), ?_⟩
  refine s_forS (ev_var rfl) (fun i σ' H' => Ex H H' ∧ (∀ j, j < i → ∀ c, bs[j]? = some c → c = 48 ∨ c = 49) ∧ ∃ y1, σ' = [some (.str (tx bs)), y1]) (fun H2 e2 => ⟨e2, fun j hj => by omega, none, rfl⟩) (fun i c σ' H' hc p => ?_) (fun σ' H' p => ?_)
  · obtain ⟨e2, hj, y1, rfl⟩ := p
    have hcb : ∀ b : Bool, b = decide (c = 48 ∨ c = 49) → (!decide (c ∈ [48, 49])) = !b := fun b h => by rw [h]; simp
    refine s_when (b := !decide (c = 48 ∨ c = 49)) (et_is (et_test (ev_op (ev_var rfl) (ev_is ev_c (congrArg V.str strB01)) (rv_niS (c := c) (l := [48, 49])))) (hcb _ rfl)) (fun hx H3 e3 => ?_) (fun hx H3 e3 => ⟨e2.trans e3, fun j hj' c' hc' => ?_, _, rfl⟩)
    · have h0 : BitsB bs = false := by
        cases h1 : BitsB bs with
        | false => rfl
        | true =>
          have := List.all_eq_true.mp h1 c (List.mem_of_getElem? hc)
          simp only [decide_eq_true_eq] at this
          simp [this] at hx
      rw [h0] at q
      exact q.bad (e2.trans e3)
    · by_cases hji : j < i
      · exact hj j hji c' hc'
      · have : j = i := by omega
        rw [this, hc] at hc'
        cases hc'
        cases h9 : decide (c = 48 ∨ c = 49) with
        | true => exact of_decide_eq_true h9
        | false => rw [h9] at hx; cases hx
  · obtain ⟨e2, hj, y1, rfl⟩ := p
    have h0 : BitsB bs = true := List.all_eq_true.mpr fun c hc => by
      obtain ⟨j, hj', e⟩ := List.getElem_of_mem hc
      exact decide_eq_true (hj j hj' c (by rw [List.getElem?_eq_getElem hj', e]))
    rw [h0] at q
    exact q.ok e2
def uf (l : Addr) (left : Nat) (ss way : List Nat) : List (Str × V) := [("learner", .ref l), ("left", .int (left : Int)), ("_signs", .str (tx ss)), ("_way", .str (tx way))]
theorem uf_learner (l : Addr) (left : Nat) (ss way : List Nat) : (uf l left ss way).lookup ("learner" : Str) = some (.ref l) := by unfold uf; (repeat (first | exact lk_eq | exact lk_nil | (refine (lk_ne (by decide +kernel)).trans ?_)))
theorem uf_left (l : Addr) (left : Nat) (ss way : List Nat) : (uf l left ss way).lookup ("left" : Str) = some (.int (left : Int)) := by unfold uf; (repeat (first | exact lk_eq | exact lk_nil | (refine (lk_ne (by decide +kernel)).trans ?_)))
theorem uf_signs (l : Addr) (left : Nat) (ss way : List Nat) : (uf l left ss way).lookup ("_signs" : Str) = some (.str (tx ss)) := by unfold uf; (repeat (first | exact lk_eq | exact lk_nil | (refine (lk_ne (by decide +kernel)).trans ?_)))
theorem uf_way (l : Addr) (left : Nat) (ss way : List Nat) : (uf l left ss way).lookup ("_way" : Str) = some (.str (tx way)) := by unfold uf; (repeat (first | exact lk_eq | exact lk_nil | (refine (lk_ne (by decide +kernel)).trans ?_)))
theorem uf_len (l : Addr) (left : Nat) (ss way : List Nat) : (uf l left ss way).length < 1000 := by show 4 < 1000; decide
theorem uf_put_left (n : Nat) (l : Addr) (left : Nat) (ss way : List Nat) : putF "left" (.int (n : Int)) (uf l left ss way) = uf l n ss way := by unfold uf; (repeat (first | rw [pf_eq] | rw [pf_nil] | rw [pf_ne (by decide +kernel)]))
theorem uf_put_way (v : List Nat) (l : Addr) (left : Nat) (ss way : List Nat) : putF "_way" (.str (tx v)) (uf l left ss way) = uf l left ss v := by unfold uf; (repeat (first | rw [pf_eq] | rw [pf_nil] | rw [pf_ne (by decide +kernel)]))
/-- an unpacker -/
def UnpAt (mg : Str → Option Value) (H : Hp) (u l b : Addr) (B : Bk) (s : LS) (left : Nat) (way : List Nat) (av : List Addr) : Prop := ∃ dx, H u = some (.ins (cadr mg "Unpacker") dx (uf l left B.ss way)) ∧ LrnV mg H l b s av ∧ u ≠ l ∧ b ≠ l ∧ b ≠ u
theorem UnpAt.ex {mg : Str → Option Value} {H H' : Hp} {u l b : Addr} {B : Bk} {s : LS} {left : Nat} {way : List Nat} {av : List Addr} (h : UnpAt mg H u l b B s left way av) (e : Ex H H') : UnpAt mg H' u l b B s left way av := by
  obtain ⟨dx, h1, h0, h2⟩ := h
  exact ⟨dx, e _ _ h1, h0.ex e, h2⟩
theorem UnpAt.taken {mg : Str → Option Value} {H : Hp} {u l b : Addr} {B : Bk} {s : LS} {left : Nat} {way : List Nat} {av : List Addr} (h : UnpAt mg H u l b B s left way av) : Taken H [l, u] := by
  obtain ⟨dx, h1, h0, h2⟩ := h
  obtain ⟨C, d, fs, h⟩ := h0.ins
  exact (Taken.one h1).cons h
theorem UnpAt.insAt {mg : Str → Option Value} {H : Hp} {u l b : Addr} {B : Bk} {s : LS} {left : Nat} {way : List Nat} {av : List Addr} (h : UnpAt mg H u l b B s left way av) : InsAt H [l, u] := by
  obtain ⟨dx, h1, h0, h2⟩ := h
  obtain ⟨C, d, fs, h⟩ := h0.ins
  intro a ha
  rcases List.mem_cons.mp ha with e | ha
  · exact ⟨_, _, _, by rw [e]; exact h⟩
  · exact ⟨_, _, _, by rw [List.mem_singleton.mp ha]; exact h1⟩
def sp_xUinit (mg : Str → Option Value) : Sp := fun vs H Q E => ∃ (u b dx : Addr) (B : Bk) (m : Int) (av : List Addr), vs = [.ref u, .ref b, .int m] ∧ H u = some (.ins (cadr mg "Unpacker") dx []) ∧ BookAt mg H b B ∧ b ≠ u ∧ BookOk B ∧ Taken H av ∧
  ((¬ (0 ≤ m ∧ m ≤ 2000) ∧ ∀ H', Ex H H' → E (.ref (cadr mg "BadCount")) none H') ∨ (∃ n : Nat, m = (n : Int) ∧ n ≤ 2000 ∧ ∀ l H', H l = none → ExS [u] H H' → UnpAt mg H' u l b B (LS.start B) n [] av → Q .non H'))
theorem qx_unpacker {mg : Str → Option Value} {σ : L2.St} {H : Hp} {t : TA} {Q : VK} {E : XK} {B : Bk} {b : Addr} {m : Int} (ha : EvA t σ H [.ref b, .int m]) (hb : BookAt mg H b B) (hB : BookOk B) {av : List Addr} (hav : Taken H av)
    (k : (¬ (0 ≤ m ∧ m ≤ 2000) ∧ ∀ H2, Ex H H2 → E (.ref (cadr mg "BadCount")) none H2) ∨ (∃ n : Nat, m = (n : Int) ∧ n ≤ 2000 ∧ ∀ u l H2, H u = none → H l = none → Ex H H2 → UnpAt mg H2 u l b B (LS.start B) n [] av → Q (.ref u) H2)) : tMake (cadr mg "Unpacker") (sp_xUinit mg) [] E t σ H Q :=
  er_mkr ha fun H1 x dx e1 hx hd hnx => by
    obtain ⟨dxb, hb⟩ := hb
    have n1 : b ≠ x := ne_of_none (e1 _ _ hb) hx
    have n2 : b ≠ dx := ne_of_none (e1 _ _ hb) hd
    refine ⟨x, b, dx, B, m, av, rfl, upd_same, ⟨dxb, by rw [upd_ne n1, upd_ne n2]; exact e1 _ _ hb⟩, n1, hB, taken_made (hav.ex e1) hx hd, ?_⟩
    rcases k with ⟨h0, k⟩ | ⟨n, hm, hn, k⟩
    · exact .inl ⟨h0, fun H2 e2 => k H2 (e1.trans (ex_made hx hd (ExS.of e2)))⟩
    refine .inr ⟨n, hm, hn, fun l H2 hl e2 h2 => ⟨rfl, k x l H2 (fresh_back e1 hx) (fresh_back e1 ?_) (e1.trans (ex_made hx hd e2)) h2⟩⟩
    have n3 : l ≠ x := fun z => by rw [z, upd_same] at hl; cases hl
    rw [upd_ne n3] at hl
    have n4 : l ≠ dx := fun z => by rw [z, upd_same] at hl; cases hl
    rw [upd_ne n4] at hl
    exact hl
theorem ok_Unpacker___init__ {f : Addr} {fd : FuncData} (T : Txt K mg) (F : Fun K "__init__" "Unpacker.__init__" s_Unpacker___init__ f fd) (N_Learner : Mkr P w K mg base "Learner" ["self", "book"] 5 (sp_Linit mg)) (C_is_whole : Cal P w K mg base "is_whole" ["value", "low", "high"] 1 sp_isw) : FnOk P w K mg base (L2.CX P w) 7 f fd ["self", "book", "many"] (sp_xUinit mg) := by
  refine F.okX sc_Unpacker___init__ (fun vs H Q E h => by obtain ⟨u, b, dx, B, n, av, rfl, _⟩ := h; rfl) (fun cdv A outer s H vs Q E hr h => ?_)
  obtain ⟨p, b, dx, B, m, av, rfl, hp, hb, hbp, hB, hav, hw⟩ := h
  have hm : p ∈ [p] := by simp
  refine ⟨_, (pss_cons (ps_if (pt_not (pt_val (pe_cal C_is_whole hr (by decide) (by rfl) (pa_cons (pv 2) (pa_cons pe_int (pa_cons (pe_globX (by rfl) T.g_LONGEST_TEXT) pa_nil)))))) (pss_one (ps_err T.ex_BadCount rfl (takes_of rfl rfl rfl rfl) (by rfl))) pss_nil)
      (pss_cons (ps_fld (pv 0) (pe_mkr N_Learner hr (by decide) (by rfl) (pa_cons (pv 1) pa_nil)) rfl)
      (pss_cons (ps_fld (pv 0) (pv 2) rfl)
      (pss_cons (ps_fld (pv 0) (pe_fld (pv 1) rfl) rfl)
      (pss_one (ps_fld (pv 0) pe_str rfl)))))), ?_⟩
  have tst : ∀ H3 : Hp, SpV sp_isw [.int m, .int 0, .int 2000] H3 (.bl (decide (0 ≤ m) && decide (m ≤ 2000))) := fun H3 => spv fun H4 _ Q E q => ⟨m, 0, 2000, rfl, q⟩
  rcases hw with ⟨hbad, q⟩ | ⟨n, rfl, hn, q⟩
  · refine q_when (b := true) (et_is (et_not (et_B (ev_cal (ea_cons (ev_var rfl) (ea_cons ev_c (ea_cons ev_c ea_nil))) (tst _)))) ?_) (fun _ H0 e0 => q H0 e0) (fun hx => nomatch hx)
    cases h1 : decide (0 ≤ m) with
    | false => rfl
    | true =>
      cases h2 : decide (m ≤ 2000) with
      | false => rfl
      | true => exact absurd ⟨of_decide_eq_true h1, of_decide_eq_true h2⟩ hbad
  refine q_when (b := false) (et_not (a := true) (et_B (ev_is (ev_cal (ea_cons (ev_var rfl) (ea_cons ev_c (ea_cons ev_c ea_nil))) (tst _)) (by rw [decide_eq_true (by omega), decide_eq_true (by omega)]; rfl)))) (fun hx => nomatch hx) (fun _ H0 e0 => ?_)
  have hp0 := e0 _ _ hp
  have hb0 := hb.ex e0
  refine q_fldM (i := 0) (ea_cons (ev_var rfl) ea_nil) rfl fun H1 x dxl e1 hx hd hnx => ?_
  obtain ⟨dxb, hb⟩ := hb0
  have n1 : b ≠ x := ne_of_none (e1 _ _ hb) hx
  have n2 : b ≠ dxl := ne_of_none (e1 _ _ hb) hd
  have px : p ≠ x := ne_of_none (e1 _ _ hp0) hx
  refine ⟨x, b, dxl, B, av, rfl, upd_same, ⟨dxb, by rw [upd_ne n1, upd_ne n2]; exact e1 _ _ hb⟩, n1, hB, taken_made ((hav.ex e0).ex e1) hx hd, fun H2 e2 a2 => ⟨rfl, _, dx, [], (e1.trans (ex_made hx hd e2)) _ _ hp0, T.cl_Unpacker, T.na_Unpacker_learner, by show 0 < 1000; decide, ?_⟩⟩
  have e12 := e1.trans (ex_made hx hd e2)
  have b2 := e12 _ _ hb
  have nbp : b ∉ [p] := by simpa using hbp
  have nxp : x ∉ [p] := by simpa using Ne.symm px
  have p2 := e12 _ _ hp0
  have x3 : ExS [p] H2 (upd H2 p (.ins (cadr mg "Unpacker") dx (putF "learner" (.ref x) []))) := ExS.refl.upd hm
  have p3 : upd H2 p (.ins (cadr mg "Unpacker") dx (putF "learner" (.ref x) [])) p = some (.ins (cadr mg "Unpacker") dx [("learner", .ref x)]) := upd_same
  have a3 := a2.exS x3 nxp (InsAt.one p2)
  have b3 := x3.at b2 nbp
  generalize upd H2 p (.ins (cadr mg "Unpacker") dx (putF "learner" (.ref x) [])) = G at x3 p3 a3 b3
  refine q_fld (ev_var rfl) (ev_var rfl) p3 T.cl_Unpacker T.na_Unpacker_left (by show 1 < 1000; decide) fun H4 e4 => ?_
  have x5 : ExS [p] H4 (upd H4 p (.ins (cadr mg "Unpacker") dx (putF "left" (.int (n : Int)) [("learner", .ref x)]))) := ExS.refl.upd hm
  have p5 : upd H4 p (.ins (cadr mg "Unpacker") dx (putF "left" (.int (n : Int)) [("learner", .ref x)])) p = some (.ins (cadr mg "Unpacker") dx [("learner", .ref x), ("left", .int (n : Int))]) := by
    rw [upd_same]
    (repeat (first | rw [pf_eq] | rw [pf_nil] | rw [pf_ne (by decide +kernel)]))
  have a5 := (a3.ex e4).exS x5 nxp (InsAt.one (e4 _ _ p3))
  have b5 := x5.at (e4 _ _ b3) nbp
  generalize upd H4 p (.ins (cadr mg "Unpacker") dx (putF "left" (.int (n : Int)) [("learner", .ref x)])) = G5 at x5 p5 a5 b5
  refine q_fld (ev_fld (ev_var rfl) b5 T.cl_Book T.na_Book_signs (bf_signs B)) (ev_var rfl) p5 T.cl_Unpacker T.na_Unpacker__signs (by show 2 < 1000; decide) fun H6 e6 => ?_
  have x7 : ExS [p] H6 (upd H6 p (.ins (cadr mg "Unpacker") dx (putF "_signs" (.str (tx B.ss)) [("learner", .ref x), ("left", .int (n : Int))]))) := ExS.refl.upd hm
  have p7 : upd H6 p (.ins (cadr mg "Unpacker") dx (putF "_signs" (.str (tx B.ss)) [("learner", .ref x), ("left", .int (n : Int))])) p = some (.ins (cadr mg "Unpacker") dx [("learner", .ref x), ("left", .int (n : Int)), ("_signs", .str (tx B.ss))]) := by
    rw [upd_same]
    (repeat (first | rw [pf_eq] | rw [pf_nil] | rw [pf_ne (by decide +kernel)]))
  have a7 := (a5.ex e6).exS x7 nxp (InsAt.one (e6 _ _ p5))
  generalize upd H6 p (.ins (cadr mg "Unpacker") dx (putF "_signs" (.str (tx B.ss)) [("learner", .ref x), ("left", .int (n : Int))])) = G7 at x7 p7 a7
  refine s_fld (ev_is ev_c str0) (ev_var rfl) p7 T.cl_Unpacker T.na_Unpacker__way (by show 3 < 1000; decide) fun H8 e8 => ?_
  have x9 : ExS [p] H8 (upd H8 p (.ins (cadr mg "Unpacker") dx (putF "_way" (.str (tx [])) [("learner", .ref x), ("left", .int (n : Int)), ("_signs", .str (tx B.ss))]))) := ExS.refl.upd hm
  refine q x _ (fresh_back (e0.trans e1) hx) (((ExS.of (ms := [p]) (e0.trans e12)).trans (x3.trans (ExS.of e4))).trans ((x5.trans (ExS.of e6)).trans ((x7.trans (ExS.of e8)).trans x9))) ⟨dx, ?_, (a7.ex e8).exS x9 nxp (InsAt.one (e8 _ _ p7)), px, n1, hbp⟩
  rw [upd_same]
  unfold uf
  (repeat (first | rw [pf_eq] | rw [pf_nil] | rw [pf_ne (by decide +kernel)]))
def sp_Lheld (mg : Str → Option Value) : Sp := fun vs H Q _ => ∃ (l b dx sh wd : Addr) (ws : List Nat), vs = [.ref l] ∧ H l = some (.ins (cadr mg "Learner") dx (lf sh wd ws b)) ∧ ∀ p H', H p = none → Ex H H' → H' p = some (.tup [.ref sh, .ref wd, .str (tx ws)]) → Q (.ref p) H'
theorem ok_Learner_held {f : Addr} {fd : FuncData} (T : Txt K mg) (F : Fun K "held" "Learner.held" s_Learner_held f fd) : FnOk P w K mg base CX0 1 f fd ["self"] (sp_Lheld mg) := by
  refine F.ok sc_Learner_held (fun vs H Q E h => by obtain ⟨l, b, dx, sh, wd, ws, rfl, _⟩ := h; rfl) (fun cdv A outer s0 H vs Q E hr h => ?_)
  obtain ⟨l, b, dx, sh, wd, ws, rfl, hl, q⟩ := h
  refine ⟨_, (pss_one (ps_ret (pe_tup (pa_cons (pe_fld (pv 0) rfl) (pa_cons (pe_fld (pv 0) rfl) (pa_cons (pe_fld (pv 0) rfl) pa_nil)))))), ?_⟩
  exact s_retU (eu_tup (ea_cons (ev_fld (ev_var rfl) hl T.cl_Learner T.na_Learner_shares (lf_shares _ _ _ _)) (ea_cons (ev_fld (ev_var rfl) hl T.cl_Learner T.na_Learner_words (lf_words _ _ _ _)) (ea_cons (ev_fld (ev_var rfl) hl T.cl_Learner T.na_Learner_waits (lf_waits _ _ _ _)) ea_nil))) (by simp)) q
def sp_Uarr (mg : Str → Option Value) : Sp := fun vs H Q _ => ∃ (u l b : Addr) (B : Bk) (s : LS) (left : Nat) (c : Nat) (av : List Addr), vs = [.ref u] ∧ UnpAt mg H u l b B s (left + 1) (code1 B s c) av ∧ Taken H av ∧ BookAt mg H b B ∧ BookOk B ∧ s.Ok B ∧ c ∈ B.ss ∧
  ∀ H', ExS [l, u] H H' → UnpAt mg H' u l b B (s.step B c) left [] av → Q (.str (tx [c])) H'
theorem ok_Unpacker__arrive {f : Addr} {fd : FuncData} (T : Txt K mg) (F : Fun K "_arrive" "Unpacker._arrive" s_Unpacker__arrive f fd) (M_Learner_took : Met P w K mg base "Learner" "took" ["self", "sign"] 6 (sp_took mg)) : FnOk P w K mg base CX0 7 f fd ["self"] (sp_Uarr mg) := by
  refine F.ok sc_Unpacker__arrive (fun vs H Q E h => by obtain ⟨u, l, b, B, s, left, c, av, rfl, _⟩ := h; rfl) (fun cdv A outer s0 H vs Q E hr h => ?_)
  obtain ⟨u, l, b, B, s, left, c, av, rfl, hU, hav, hb, hB, hO, hc, q⟩ := h
  obtain ⟨dx, hu, hl, nul, nbl, nbu⟩ := id hU
  obtain ⟨dxl, sh, wd, il, h3, h4, _⟩ := id hl
  have hss := hB.1.2.1
  refine ⟨_, (pss_cons (ps_set (i := 1) sc_Unpacker__arrive.nd rfl (Or.inl rfl) (pe_ix ix_str (pe_fld (pv 0) rfl) (pe_bm PySem.F.plainAttrs_list PySem.F.slot_list_index PySem.F.type_list_index mt_index (pe_fld (pe_fld (pv 0) rfl) rfl) (pa_cons (pe_fld (pv 0) rfl) pa_nil)) (fun _ _ => rfl)))
      (pss_cons (ps_expr (pe_met M_Learner_took hr (by decide) (pe_fld (pv 0) rfl) (pa_cons (pv 1) pa_nil)))
      (pss_cons (ps_fldaug (pv 0) pe_int in_sub)
      (pss_cons (ps_fld (pv 0) pe_str rfl)
      (pss_one (ps_ret (pv 1))))))), ?_⟩
  refine q_asg (ev_ixS1 (ev_fld (ev_var rfl) hu T.cl_Unpacker T.na_Unpacker__signs (uf_signs _ _ _ _)) (ev_idxW (ev_fld (ev_fld (ev_var rfl) hu T.cl_Unpacker T.na_Unpacker_learner (uf_learner _ _ _ _)) il T.cl_Learner T.na_Learner_words (lf_words _ _ _ _)) (ea_cons (ev_fld (ev_var rfl) hu T.cl_Unpacker T.na_Unpacker__way (uf_way _ _ _ _)) ea_nil) (sq_of h4) (code1_get hO hc) (fun m z hm hz e => by rw [e] at hz; have := code_idx hO hc hz; omega)) (idx_at hc) (by omega)) fun H1 e1 => ?_
  have hu1 := e1 _ _ hu
  have il1 := e1 _ _ il
  refine q_dropQ (er_met (ev_fld (ev_var rfl) hu1 T.cl_Unpacker T.na_Unpacker_learner (uf_learner _ _ _ _)) il1 (by unfold lf; (repeat (first | exact lk_eq | exact lk_nil | (refine (lk_ne (by decide +kernel)).trans ?_)))) (ea_cons (ev_var rfl) ea_nil) fun H2 e2 => ?_)
  have e12 := e1.trans e2
  refine ⟨l, b, B, s, c, av, rfl, hl.ex e12, hav.ex e12, hb.ex e12, nbl, hB, hO, hc, fun H3 x3 a3 => ?_⟩
  have nlu : l ∉ [u] := by simpa using Ne.symm nul
  have hm : u ∈ [u] := by simp
  have u3 := x3 _ _ (by simpa using nul) (e12 _ _ hu)
  refine q_faugI (a := ((left + 1 : Nat) : Int)) (b := 1) (ev_var rfl) u3 T.cl_Unpacker T.na_Unpacker_left (uf_left _ _ _ _) ev_c (uf_len _ _ _ _) fun H4 e4 => ?_
  rw [show (((left + 1 : Nat) : Int) - 1) = ((left : Nat) : Int) by omega, uf_put_left]
  have x5 : ExS [u] H4 (upd H4 u (.ins (cadr mg "Unpacker") dx (uf l left B.ss (code1 B s c)))) := ExS.refl.upd hm
  have u5 : upd H4 u (.ins (cadr mg "Unpacker") dx (uf l left B.ss (code1 B s c))) u = some (.ins (cadr mg "Unpacker") dx (uf l left B.ss (code1 B s c))) := upd_same
  have a5 := (a3.ex e4).exS x5 nlu (InsAt.one (e4 _ _ u3))
  generalize upd H4 u (.ins (cadr mg "Unpacker") dx (uf l left B.ss (code1 B s c))) = G5 at x5 u5 a5
  refine q_fld (ev_is ev_c str0) (ev_var rfl) u5 T.cl_Unpacker T.na_Unpacker__way (uf_len _ _ _ _) fun H6 e6 => ?_
  rw [uf_put_way]
  have x7 : ExS [u] H6 (upd H6 u (.ins (cadr mg "Unpacker") dx (uf l left B.ss []))) := ExS.refl.upd hm
  have u7 : upd H6 u (.ins (cadr mg "Unpacker") dx (uf l left B.ss [])) u = some (.ins (cadr mg "Unpacker") dx (uf l left B.ss [])) := upd_same
  have a7 := (a5.ex e6).exS x7 nlu (InsAt.one (e6 _ _ u5))
  generalize upd H6 u (.ins (cadr mg "Unpacker") dx (uf l left B.ss [])) = G7 at x7 u7 a7
  refine s_ret (ev_var rfl) fun H8 e8 => ?_
  have m1 : ∀ a ∈ [l], a ∈ [l, u] := by simp
  have m2 : ∀ a ∈ [u], a ∈ [l, u] := by simp
  exact q H8 (((ExS.of e12).trans (x3.mono m1)).trans (((ExS.of e4).trans (x5.mono m2)).trans (((ExS.of e6).trans (x7.mono m2)).trans (ExS.of e8)))) ⟨dx, e8 _ _ u7, a7.ex e8, nul, nbl, nbu⟩
def sp_Lback (mg : Str → Option Value) : Sp := fun vs H Q _ => ∃ (l p b dx sh wd sh0 wd0 : Addr) (ws ws0 : List Nat), vs = [.ref l, .ref p] ∧ H l = some (.ins (cadr mg "Learner") dx (lf sh0 wd0 ws0 b)) ∧ H p = some (.tup [.ref sh, .ref wd, .str (tx ws)]) ∧
  ∀ H', ExS [l] H H' → H' l = some (.ins (cadr mg "Learner") dx (lf sh wd ws b)) → Q .non H'
theorem ok_Learner_go_back {f : Addr} {fd : FuncData} (T : Txt K mg) (F : Fun K "go_back" "Learner.go_back" s_Learner_go_back f fd) : FnOk P w K mg base CX0 1 f fd ["self", "held"] (sp_Lback mg) := by
  refine F.ok sc_Learner_go_back (fun vs H Q E h => by obtain ⟨l, p, b, dx, sh, wd, sh0, wd0, ws, ws0, rfl, _⟩ := h; rfl) (fun cdv A outer s0 H vs Q E hr h => ?_)
  obtain ⟨l, p, b, dx, sh, wd, sh0, wd0, ws, ws0, rfl, hl, hp, q⟩ := h
  refine ⟨_, (pss_one (ps_asg (pv 1) (pg_tup rfl (pgs_cons (pg_fld (pv 0)) (pgs_cons (pg_fld (pv 0)) (pgs_cons (pg_fld (pv 0)) pgs_nil)))))), ?_⟩
  refine (ev_var rfl) H (Ex.refl H) _ fun H1 e1 => ?_
  have hm : l ∈ [l] := by simp
  refine ⟨p, _, rfl, st_of (e1 _ _ hp), rfl, _, _, rfl, g_fld (ev_var rfl) (e1 _ _ hl) T.cl_Learner T.na_Learner_shares (by show 4 < 1000; decide) fun H2 e2 => ?_⟩
  rw [lf_put_shares]
  refine ⟨_, _, rfl, g_fld (ev_var rfl) upd_same T.cl_Learner T.na_Learner_words (by show 4 < 1000; decide) fun H3 e3 => ?_⟩
  rw [lf_put_words]
  refine ⟨_, _, rfl, g_fld (ev_var rfl) upd_same T.cl_Learner T.na_Learner_waits (by show 4 < 1000; decide) fun H4 e4 => ?_⟩
  rw [lf_put_waits]
  refine ⟨rfl, q _ ?_ upd_same⟩
  exact (((ExS.of (e1.trans e2)).upd hm).trans ((ExS.of e3).upd hm)).trans ((ExS.of e4).upd hm)
def sp_Ufol (mg : Str → Option Value) : Sp := fun vs H Q _ => ∃ (u l b : Addr) (B : Bk) (s : LS) (left : Nat) (way bs kn : List Nat) (s' : LS) (left' : Nat) (way' r' : List Nat) (av : List Addr), vs = [.ref u, .str (tx bs)] ∧ UnpAt mg H u l b B s left way av ∧ Taken H av ∧ BookAt mg H b B ∧ BookOk B ∧ s.Ok B ∧
  Fol B s left way bs kn s' left' way' r' ∧ left ≤ 2000 ∧ bs.length ≤ 90000 ∧ way.length + bs.length ≤ 95000 ∧
  ∀ p H', H p = none → ExS [l, u] H H' → H' p = some (.tup [.str (tx kn), .int (((bs.length - r'.length : Nat)) : Int)]) → UnpAt mg H' u l b B s' left' way' av → Q (.ref p) H'
/-- where the loop stands -/
def AtF (mg : Str → Option Value) (H : Hp) (u l b : Addr) (B : Bk) (left0 : Nat) (bs kn way0 : List Nat) (s' : LS) (left' : Nat) (way' r' : List Nat) (av : List Addr) (m : Nat) (σ' : L2.St) (H' : Hp) : Prop :=
  ∃ (s1 : LS) (n1 : Nat) (w1 acc kn2 : List Nat) (us : Nat), σ' = [some (.ref u), some (.str (tx bs)), some (.str (tx acc)), some (.int (us : Int))] ∧ ExS [l, u] H H' ∧ UnpAt mg H' u l b B s1 n1 w1 av ∧ Taken H' av ∧ s1.Ok B ∧ Fol B s1 n1 w1 (bs.drop us) kn2 s' left' way' r' ∧ acc ++ kn2 = kn ∧ us ≤ bs.length ∧ w1.length ≤ way0.length + us ∧ acc.length + n1 = left0 ∧ m = n1 + (bs.length - us)
theorem ok_Unpacker__follow {f : Addr} {fd : FuncData} (T : Txt K mg) (F : Fun K "_follow" "Unpacker._follow" s_Unpacker__follow f fd) (M_Unpacker__arrive : Met P w K mg base "Unpacker" "_arrive" ["self"] 7 (sp_Uarr mg)) : FnOk P w K mg base CX0 8 f fd ["self", "bits"] (sp_Ufol mg) := by
  refine F.ok sc_Unpacker__follow (fun vs H Q E h => by obtain ⟨u, l, b, B, s, left, way, bs, kn, s', left', way', r', av, rfl, _⟩ := h; rfl) (fun cdv A outer s0 H vs Q E hr h => ?_)
  obtain ⟨u, l, b, B, s, left, way, bs, kn, s', left', way', r', av, rfl, hU, hav, hb, hB, hO, hF, hl1, hl2, hl3, q⟩ := h
  refine ⟨_, (pss_cons (ps_set (i := 2) sc_Unpacker__follow.nd rfl (Or.inl rfl) pe_str)
      (pss_cons (ps_set (i := 3) sc_Unpacker__follow.nd rfl (Or.inl rfl) pe_int)
      (pss_cons (ps_while PassesOwn.never (pt_cmpR op_gt (pe_fld (pv 0) rfl) pe_int (nomark _)) (pss_one (ps_if (pt_cmpR op_in_seq (pe_fld (pv 0) rfl) (pe_fld (pe_fld (pv 0) rfl) rfl) (by rfl)) (pss_one (ps_aug (i := 2) sc_Unpacker__follow.nd rfl (Or.inl rfl) (pe_met0 M_Unpacker__arrive hr (by decide) (pv 0)) in_addS)) (pss_one (ps_if (pt_cmpR op_lt (pv 3) (pe_callB call_len_str (by rfl) T.b_len PySem.boot_len (pa_cons (pv 1) pa_nil)) (nomark _)) (pss_cons (ps_fldaug (pv 0) (pe_ix ix_str (pv 1) (pv 3) (fun _ _ => rfl)) in_addS)
      (pss_one (ps_aug (i := 3) sc_Unpacker__follow.nd rfl (Or.inl rfl) pe_int ip_add))) (pss_one ps_break))))))
      (pss_one (ps_ret (pe_tup (pa_cons (pv 2) (pa_cons (pv 3) pa_nil)))))))), ?_⟩
  refine q_asg (ev_is ev_c str0) fun H1 e1 => ?_
  refine q_asg ev_c fun H2 e2 => ?_
  have e12 := e1.trans e2
  have fin : ∀ (acc : List Nat) (us : Nat) (H3 : Hp), ExS [l, u] H H3 → UnpAt mg H3 u l b B s' left' way' av → acc = kn → r' = bs.drop us → us ≤ bs.length → tRet (tTup (tCons (tVar 2) (tCons (tVar 3) tNil))) { nx := fun _ H' => Q .non H', rt := Q } [some (.ref u), some (.str (tx bs)), some (.str (tx acc)), some (.int (us : Int))] H3 := fun acc us H3 x3 U3 ea er hus => by
    subst ea
    refine s_retU (eu_tup (ea_cons (ev_var rfl) (ea_cons (ev_var rfl) ea_nil)) (by simp)) fun p H4 hp e4 h4 => ?_
    have hpn : H p = none := x3.back hp fun z => by
      obtain ⟨o, ho⟩ := U3.taken p z
      rw [hp] at ho
      cases ho
    refine q p H4 hpn (x3.trans (ExS.of e4)) ?_ (U3.ex e4)
    rw [h4, er, List.length_drop, show bs.length - (bs.length - us) = us by omega]
  refine q_while (AtF mg H u l b B left bs kn way s' left' way' r' av) (left + bs.length) ⟨s, left, way, [], kn, 0, rfl, ExS.of e12, hU.ex e12, hav.ex e12, hO, by simpa using hF, rfl, by omega, by omega, by simp, by omega⟩ (fun m σ' H' hw => ?_)
  obtain ⟨s1, n1, w1, acc, kn2, us, rfl, x3, U3, v3, hO1, hF1, hkn, hus, hw1, hac, rfl⟩ := hw
  obtain ⟨dx, hu, hL, nul, nbl, nbu⟩ := id U3
  obtain ⟨dxl, sh, wd, il, h3, h4, _⟩ := id hL
  refine ⟨decide ((0 : Int) < (n1 : Int)), et_test (ev_op (ev_fld (ev_var rfl) hu T.cl_Unpacker T.na_Unpacker_left (uf_left _ _ _ _)) ev_c rv_I0), fun hb2 H4 e4 => ?_, fun hb2 H4 e4 => ?_⟩
  · have hn1 := of_decide_eq_true hb2
    refine ⟨fun σ2 H2 => ∃ m', m' < n1 + (bs.length - us) ∧ AtF mg H u l b B left bs kn way s' left' way' r' av m' σ2 H2, fun _ _ h => h, ?_⟩
    have hu4 := e4 _ _ hu
    have il4 := e4 _ _ il
    have h44 := e4 _ _ h4
    have b4 : BookAt mg H4 b B := (hb.exS x3 (by simp [nbl, nbu])).ex e4
    refine s_if (b := decide (w1 ∈ HF.codes s1.ns)) (et_test (ev_op (ev_fld (ev_var rfl) hu4 T.cl_Unpacker T.na_Unpacker__way (uf_way _ _ _ _)) (ev_fld (ev_fld (ev_var rfl) hu4 T.cl_Unpacker T.na_Unpacker_learner (uf_learner _ _ _ _)) il4 T.cl_Learner T.na_Learner_words (lf_words _ _ _ _)) (rv_inW (sq_of h44)))) (fun hx H5 e5 => ?_) (fun hx H5 e5 => ?_)
    · have hx := of_decide_eq_true hx
      obtain ⟨n2, rfl⟩ : ∃ n2, n1 = n2 + 1 := ⟨n1 - 1, by omega⟩
      generalize hd : bs.drop us = rest at hF1
      cases hF1 with
      | bit hw _ => exact absurd hx hw
      | stuck hw => exact absurd hx hw
      | arrive hc ec hF2 =>
        rename_i c kn3
        subst ec
        subst hd
        have hu5 := e5 _ _ hu4
        refine ⟨.str (tx acc), rfl, er_met (ev_var rfl) hu5 (by unfold uf; (repeat (first | exact lk_eq | exact lk_nil | (refine (lk_ne (by decide +kernel)).trans ?_)))) ea_nil fun H6 e6 => ?_⟩
        have e46 := (e4.trans e5).trans e6
        refine ⟨u, l, b, B, s1, n2, c, av, rfl, U3.ex e46, v3.ex e46, (b4.ex e5).ex e6, hB, hO1, hc, fun H7 x7 U7 => ?_⟩
        refine ⟨tx acc, tx [c], rfl, rfl, by rw [tx_len, tx_len]; exact sz_of (by simp; omega), ?_⟩
        rw [tx_app]
        exact ⟨n2 + (bs.length - us), by omega, s1.step B c, n2, [], acc ++ [c], kn3, us, rfl, (x3.trans (ExS.of e46)).trans x7, U7, (v3.ex e46).exS x7 U7.taken, LS.step_ok hB hO1, hF2, (List.append_assoc _ _ _).trans hkn, hus, Nat.zero_le _, by rw [List.length_append, List.length_singleton]; omega, rfl⟩
    · have hx := of_decide_eq_false hx
      obtain ⟨n2, rfl⟩ : ∃ n2, n1 = n2 + 1 := ⟨n1 - 1, by omega⟩
      have hu5 := e5 _ _ hu4
      refine s_if (b := decide ((us : Int) < (bs.length : Int))) (et_is (et_test (ev_op (ev_var rfl) (ev_is (ev_lenZ (ev_var rfl) (by rw [tx_len]; exact sz_of (by omega))) (by rw [tx_len])) rv_I0)) rfl) (fun hy H6 e6 => ?_) (fun hy H6 e6 => ?_)
      · have hy := of_decide_eq_true hy
        have hlt : us < bs.length := by omega
        have hu6 := e6 _ _ hu5
        have hd : bs.drop us = bs[us] :: bs.drop (us + 1) := List.drop_eq_getElem_cons hlt
        rw [hd] at hF1
        cases hF1 with
        | arrive hc ec _ => exact absurd (ec ▸ code_mem hO1 hc) hx
        | bit hw hF2 =>
          refine q_faugS (a := w1) (b := [bs[us]]) (ev_var rfl) hu6 T.cl_Unpacker T.na_Unpacker__way (uf_way _ _ _ _) (ev_ixS1 (ev_var rfl) (ev_var rfl) (List.getElem?_eq_getElem hlt) (by omega)) (by simp; omega) (uf_len _ _ _ _) fun H7 e7 => ?_
          rw [uf_put_way]
          have e47 := ((e4.trans e5).trans e6).trans e7
          have hm : u ∈ [u] := by simp
          have x8 : ExS [u] H7 (upd H7 u (.ins (cadr mg "Unpacker") dx (uf l (n2 + 1) B.ss (w1 ++ [bs[us]])))) := ExS.refl.upd hm
          have u8 : upd H7 u (.ins (cadr mg "Unpacker") dx (uf l (n2 + 1) B.ss (w1 ++ [bs[us]]))) u = some (.ins (cadr mg "Unpacker") dx (uf l (n2 + 1) B.ss (w1 ++ [bs[us]]))) := upd_same
          have a8 := (hL.ex e47).exS x8 (by simpa using Ne.symm nul) (InsAt.one (e47 _ _ hu))
          have v8 := (v3.ex e47).exS x8 (Taken.one u8)
          generalize upd H7 u (.ins (cadr mg "Unpacker") dx (uf l (n2 + 1) B.ss (w1 ++ [bs[us]]))) = G8 at x8 u8 a8 v8
          refine s_aug rfl ev_c fun H9 e9 => ?_
          have m2 : ∀ a ∈ [u], a ∈ [l, u] := by simp
          exact ⟨n2 + 1 + (bs.length - (us + 1)), by omega, s1, n2 + 1, w1 ++ [bs[us]], acc, kn2, us + 1, rfl, ((x3.trans (ExS.of e47)).trans (x8.mono m2)).trans (ExS.of e9), ⟨dx, e9 _ _ u8, a8.ex e9, nul, nbl, nbu⟩, v8.ex e9, hO1, hF2, hkn, hlt, by rw [List.length_append, List.length_singleton]; omega, hac, rfl⟩
      · have hy := of_decide_eq_false hy
        have hd : bs.drop us = [] := List.drop_of_length_le (by omega)
        rw [hd] at hF1
        cases hF1 with
        | arrive hc ec _ => exact absurd (ec ▸ code_mem hO1 hc) hx
        | stuck hw =>
          rw [List.append_nil] at hkn
          exact fin acc us H6 (x3.trans (ExS.of ((e4.trans e5).trans e6))) (U3.ex ((e4.trans e5).trans e6)) hkn hd.symm hus
  · have hn1 := of_decide_eq_false hb2
    obtain rfl : n1 = 0 := by omega
    cases hF1 with
    | done =>
      rw [List.append_nil] at hkn
      exact fin acc us H4 (x3.trans (ExS.of e4)) (U3.ex e4) hkn rfl hus
def sp_xput (mg : Str → Option Value) : Sp := fun vs H Q E => ∃ (u l b : Addr) (B : Bk) (s : LS) (left : Nat) (way bs : List Nat) (av : List Addr), vs = [.ref u, .str (tx bs)] ∧ UnpAt mg H u l b B s left way av ∧ Taken H av ∧ BookAt mg H b B ∧ BookOk B ∧ s.Ok B ∧ left ≤ 2000 ∧ bs.length ≤ 90000 ∧ way.length + bs.length ≤ 95000 ∧
  ((BitsB bs = false ∧ ∀ H', Ex H H' → E (.ref (cadr mg "BadBit")) none H') ∨
   (BitsB bs = true ∧ ∃ (kn : List Nat) (s' : LS) (left' : Nat) (way' r' : List Nat), Fol B s left way bs kn s' left' way' r' ∧
     (r' ≠ [] → ∀ H', ExS [l, u] H H' → UnpAt mg H' u l b B s left way av → E (.ref (cadr mg "Loose")) none H') ∧
     (r' = [] → ∀ H', ExS [l, u] H H' → UnpAt mg H' u l b B s' left' way' av → Q (.str (tx kn)) H')))
theorem ok_Unpacker_put {f : Addr} {fd : FuncData} (T : Txt K mg) (F : Fun K "put" "Unpacker.put" s_Unpacker_put f fd) (C_check_bits : CalX P w K mg base "check_bits" ["bits"] 1 (sp_xB mg)) (M_Unpacker__follow : Met P w K mg base "Unpacker" "_follow" ["self", "bits"] 8 (sp_Ufol mg)) (M_Learner_held : Met P w K mg base "Learner" "held" ["self"] 1 (sp_Lheld mg)) (M_Learner_go_back : Met P w K mg base "Learner" "go_back" ["self", "held"] 1 (sp_Lback mg)) : FnOk P w K mg base (L2.CX P w) 9 f fd ["self", "bits"] (sp_xput mg) := by
  refine F.okX sc_Unpacker_put (fun vs H Q E h => by obtain ⟨u, l, b, B, s, left, way, bs, av, rfl, _⟩ := h; rfl) (fun cdv A outer s0 H vs Q E hr h => ?_)
  obtain ⟨u, l, b, B, s, left, way, bs, av, rfl, hU, hav, hb, hB, hO, hl1, hl2, hl3, hw⟩ := h
  refine ⟨_, (pss_cons (ps_expr (pe_calX C_check_bits (pass_on (E := E) rfl rfl rfl rfl) hr (by decide) (by rfl) (pa_cons (pv 1) pa_nil)))
      (pss_cons (ps_par3 (i := 2) (j := 3) (l := 4) rfl sc_Unpacker_put.nd rfl rfl rfl (by decide) (by decide) (by decide) rfl rfl rfl (pa_cons (pe_met0 M_Learner_held hr (by decide) (pe_fld (pv 0) rfl)) (pa_cons (pe_fld (pv 0) rfl) (pa_cons (pe_fld (pv 0) rfl) pa_nil))) (by rfl))
      (pss_cons (ps_asg (pe_met M_Unpacker__follow hr (by decide) (pv 0) (pa_cons (pv 1) pa_nil)) (pg_tup rfl (pgs_cons (pg_name (i := 5) sc_Unpacker_put.nd rfl (Or.inl rfl)) (pgs_cons (pg_name (i := 6) sc_Unpacker_put.nd rfl (Or.inl rfl)) pgs_nil))))
      (pss_cons (ps_if (pt_cmpR op_lt (pv 6) (pe_callB call_len_str (by rfl) T.b_len PySem.boot_len (pa_cons (pv 1) pa_nil)) (nomark _)) (pss_cons (ps_expr (pe_met M_Learner_go_back hr (by decide) (pe_fld (pv 0) rfl) (pa_cons (pv 2) pa_nil)))
      (pss_cons (ps_asg (pe_tup (pa_cons (pv 3) (pa_cons (pv 4) pa_nil))) (pg_tup rfl (pgs_cons (pg_fld (pv 0)) (pgs_cons (pg_fld (pv 0)) pgs_nil))))
      (pss_one (ps_err T.ex_Loose rfl (takes_of rfl rfl rfl rfl) (by rfl))))) pss_nil)
      (pss_one (ps_ret (pv 5))))))), ?_⟩
  refine q_dropQ (er_cal (ea_cons (ev_var rfl) ea_nil) fun H0 e0 => ?_)
  rcases hw with ⟨hbad, q⟩ | ⟨hgood, kn, s', left', way', r', hF, qL, qK⟩
  · exact ⟨bs, rfl, by rw [hbad]; exact fun H2 e2 => q H2 (e0.trans e2)⟩
  refine ⟨bs, rfl, ?_⟩
  rw [hgood]
  intro H1 e1'
  have e1 := e0.trans e1'
  obtain ⟨dx, hu, hL, nul, nbl, nbu⟩ := id (hU.ex e1)
  obtain ⟨dxl, sh, wd, il, h3, h4, a3, a4⟩ := id hL
  refine er_met (ev_fld (ev_var rfl) hu T.cl_Unpacker T.na_Unpacker_learner (uf_learner _ _ _ _)) il (by unfold lf; (repeat (first | exact lk_eq | exact lk_nil | (refine (lk_ne (by decide +kernel)).trans ?_)))) ea_nil fun H2 e2 => ?_
  refine ⟨l, b, dxl, sh, wd, _, rfl, e2 _ _ il, fun p H3 hp e3 h3' => ?_⟩
  have e23 := e2.trans e3
  refine (ea_cons (ev_fld (ev_var rfl) (e23 _ _ hu) T.cl_Unpacker T.na_Unpacker_left (uf_left _ _ _ _)) (ea_cons (ev_fld (ev_var rfl) (e23 _ _ hu) T.cl_Unpacker T.na_Unpacker__way (uf_way _ _ _ _)) ea_nil)) H3 (Ex.refl _) _ fun H4 e4 => ?_
  refine ⟨_, _, _, rfl, ?_⟩
  have e14 := e1.trans (e23.trans e4)
  have e24 := e23.trans e4
  refine er_met (ev_var rfl) (e24 _ _ hu) (by unfold uf; (repeat (first | exact lk_eq | exact lk_nil | (refine (lk_ne (by decide +kernel)).trans ?_)))) (ea_cons (ev_var rfl) ea_nil) fun H5 e5 => ?_
  have e15 := e14.trans e5
  refine ⟨u, l, b, B, s, left, way, bs, kn, s', left', way', r', av, rfl, hU.ex e15, hav.ex e15, hb.ex e15, hB, hO, hF, hl1, hl2, hl3, fun r H6 hr6 x6 h6 U6 => ?_⟩
  refine ⟨r, [.str (tx kn), .int (((bs.length - r'.length : Nat)) : Int)], rfl, st_of h6, rfl, _, [_], rfl, _, [], rfl, rfl, ?_⟩
  obtain ⟨-, -, -, -, hr', -, -⟩ := hF.ok hB hO
  have hii : InsAt H1 [l, u] := (hU.ex e1).insAt
  have nsh := hii.not h3
  have nwd := hii.not h4
  have hsh6 := x6 _ _ nsh ((e24.trans e5) _ _ h3)
  have hwd6 := x6 _ _ nwd ((e24.trans e5) _ _ h4)
  have np : p ∉ [l, u] := fun z => by
    rcases List.mem_cons.mp z with z | z
    · rw [z, e2 _ _ il] at hp; cases hp
    · rw [List.mem_singleton.mp z, e2 _ _ hu] at hp; cases hp
  have hp6 := x6 _ _ np ((e4.trans e5) _ _ h3')
  refine q_when (b := decide (r' ≠ [])) (et_is (et_test (ev_op (ev_var rfl) (ev_lenZ (ev_var rfl) (by rw [tx_len]; exact sz_of (by omega))) rv_I0)) ?_) (fun hx H7 e7 => ?_) (fun hx H7 e7 => ?_)
  · rw [tx_len]
    refine decide_eq_decide.mpr ?_
    cases r' with
    | nil => simp
    | cons a r => simp only [List.length_cons] at hr' ⊢; simp; omega
  · obtain ⟨dx7, u7, L7, _⟩ := id (U6.ex e7)
    obtain ⟨dxl7, sh7, wd7, il7, _⟩ := id L7
    refine q_dropQ (er_met (ev_fld (ev_var rfl) u7 T.cl_Unpacker T.na_Unpacker_learner (uf_learner _ _ _ _)) il7 (by unfold lf; (repeat (first | exact lk_eq | exact lk_nil | (refine (lk_ne (by decide +kernel)).trans ?_)))) (ea_cons (ev_var rfl) ea_nil) fun H8 e8 => ?_)
    refine ⟨l, p, b, dxl7, sh, wd, sh7, wd7, s.ws, s'.ws, rfl, e8 _ _ il7, (e7.trans e8) _ _ hp6, fun H9 x9 h9 => ?_⟩
    have nul' : u ∉ [l] := by simpa using nul
    have nlu : l ∉ [u] := by simpa using Ne.symm nul
    have u9 := x9 _ _ nul' (e8 _ _ u7)
    have hm : u ∈ [u] := by simp
    refine q_asgU (eu_tup (ea_cons (ev_var rfl) (ea_cons (ev_var rfl) ea_nil)) (by simp)) fun q9 H10 hq9 e10 h10 => ⟨q9, [_, _], rfl, st_of h10, rfl, _, [_], rfl, g_fld (ev_var rfl) (e10 _ _ u9) T.cl_Unpacker T.na_Unpacker_left (uf_len _ _ _ _) fun H11 e11 => ?_⟩
    rw [uf_put_left]
    refine ⟨_, [], rfl, g_fld (ev_var rfl) upd_same T.cl_Unpacker T.na_Unpacker__way (uf_len _ _ _ _) fun H12 e12 => ⟨rfl, ?_⟩⟩
    rw [uf_put_way]
    have y1 : ExS [u] H9 H11 := ExS.of (e10.trans e11)
    have y2 := ((y1.upd (o := .ins (cadr mg "Unpacker") dx7 (uf l left B.ss way')) hm).trans (ExS.of e12)).upd (o := .ins (cadr mg "Unpacker") dx7 (uf l left B.ss way)) hm
    have m1 : ∀ a ∈ [l], a ∈ [l, u] := by simp
    have m2 : ∀ a ∈ [u], a ∈ [l, u] := by simp
    have y3 := ((x6.trans (ExS.of (e7.trans e8))).trans (x9.mono m1)).trans (y2.mono m2)
    refine qL (of_decide_eq_true hx) _ ((ExS.of e15).trans y3) ⟨dx7, upd_same, ⟨dxl7, sh, wd, y2 _ _ nlu h9, y3 _ _ nsh ((e24.trans e5) _ _ h3), y3 _ _ nwd ((e24.trans e5) _ _ h4), a3, a4⟩, nul, nbl, nbu⟩
  · have hr0 : r' = [] := by
      have := of_decide_eq_false hx
      simpa using this
    exact s_ret (ev_var rfl) fun H8 e8 => qK hr0 H8 (((ExS.of e15).trans x6).trans (ExS.of (e7.trans e8))) (U6.ex (e7.trans e8))
/-- what unpack tells, or how it refuses -/
def UnpTo (B : Bk) (bs : List Nat) (m : Int) (o : Out) : Prop :=
  (¬ (0 ≤ m ∧ m ≤ 2000) ∧ o = .bad "BadCount") ∨ (∃ n : Nat, m = (n : Int) ∧ n ≤ 2000 ∧ ((BitsB bs = false ∧ o = .bad "BadBit") ∨ (BitsB bs = true ∧ ∃ (kn : List Nat) (s' : LS) (left' : Nat) (way' r' : List Nat), Fol B (LS.start B) n [] bs kn s' left' way' r' ∧
    ((r' ≠ [] ∧ o = .bad "Loose") ∨ (r' = [] ∧ 0 < left' ∧ o = .bad "Short") ∨ (r' = [] ∧ left' = 0 ∧ o = .ok (.str (tx kn)))))))
def sp_xunpack (mg : Str → Option Value) : Sp := fun vs H Q E => ∃ (b : Addr) (B : Bk) (bs : List Nat) (m : Int) (o : Out), vs = [.ref b, .str (tx bs), .int m] ∧ BookAt mg H b B ∧ BookOk B ∧ bs.length ≤ 90000 ∧ UnpTo B bs m o ∧ RetX mg o H Q E
theorem ok_unpack {f : Addr} {fd : FuncData} (T : Txt K mg) (F : Fun K "unpack" "unpack" s_unpack f fd) (N_Unpacker : MkrX P w K mg base "Unpacker" ["self", "book", "many"] 7 (sp_xUinit mg)) (M_Unpacker_put : MetX P w K mg base "Unpacker" "put" ["self", "bits"] 9 (sp_xput mg)) : FnOk P w K mg base (L2.CX P w) 10 f fd ["book", "bits", "many"] (sp_xunpack mg) := by
  refine F.okX sc_unpack (fun vs H Q E h => by obtain ⟨b, B, bs, m, o, rfl, _⟩ := h; rfl) (fun cdv A outer s0 H vs Q E hr h => ?_)
  obtain ⟨b, B, bs, m, o, rfl, hb, hB, hlen, hU, q⟩ := h
  refine ⟨_, (pss_cons (ps_set (i := 3) sc_unpack.nd rfl (Or.inl rfl) (pe_mkrX N_Unpacker (pass_on (E := E) rfl rfl rfl rfl) hr (by decide) (by rfl) (pa_cons (pv 0) (pa_cons (pv 2) pa_nil))))
      (pss_cons (ps_set (i := 4) sc_unpack.nd rfl (Or.inl rfl) (pe_metX M_Unpacker_put (pass_on (E := E) rfl rfl rfl rfl) hr (by decide) (pv 3) (pa_cons (pv 1) pa_nil)))
      (pss_cons (ps_if (pt_cmpR op_gt (pe_fld (pv 3) rfl) pe_int (nomark _)) (pss_one (ps_err T.ex_Short rfl (takes_of rfl rfl rfl rfl) (by rfl))) pss_nil)
      (pss_one (ps_ret (pv 4)))))), ?_⟩
  refine q_asgQ (qx_unpacker (ea_cons (ev_var rfl) (ea_cons (ev_var rfl) ea_nil)) hb hB Taken.nil ?_)
  rcases hU with ⟨hbad, ho⟩ | ⟨n, hm, hn, hU⟩
  · exact .inl ⟨hbad, fun H2 e2 => by rw [ho] at q; exact q.bad e2⟩
  refine .inr ⟨n, hm, hn, fun u l H1 hu hl e1 U1 => ?_⟩
  obtain ⟨dx, u1, _⟩ := id U1
  have free : ∀ a ∈ [l, u], H a = none := fun a ha => by
    rcases List.mem_cons.mp ha with e | ha
    · rw [e]; exact hl
    · rw [List.mem_singleton.mp ha]; exact hu
  refine q_asgQ (er_met (ev_var rfl) u1 (by unfold uf; (repeat (first | exact lk_eq | exact lk_nil | (refine (lk_ne (by decide +kernel)).trans ?_)))) (ea_cons (ev_var rfl) ea_nil) fun H2 e2 => ?_)
  refine ⟨u, l, b, B, LS.start B, n, [], bs, [], rfl, U1.ex e2, Taken.nil, (hb.ex e1).ex e2, hB, LS.start_ok hB, hn, hlen, by simp; omega, ?_⟩
  rcases hU with ⟨h0, ho⟩ | ⟨h0, kn, s', left', way', r', hF, hU⟩
  · exact .inl ⟨h0, fun H3 e3 => by rw [ho] at q; exact q.bad ((e1.trans e2).trans e3)⟩
  refine .inr ⟨h0, kn, s', left', way', r', hF, fun hr H3 x3 U3 => ?_, fun hr H3 x3 U3 => ?_⟩
  · rcases hU with ⟨_, ho⟩ | ⟨h1, _⟩ | ⟨h1, _⟩
    · rw [ho] at q
      exact q.bad (x3.ex (e1.trans e2) free)
    · exact absurd h1 hr
    · exact absurd h1 hr
  · obtain ⟨dx3, u3, _⟩ := id U3
    have e13 := x3.ex (e1.trans e2) free
    refine q_when (b := decide (0 < left')) (et_is (et_test (ev_op (ev_fld (ev_var rfl) u3 T.cl_Unpacker T.na_Unpacker_left (uf_left _ _ _ _)) ev_c rv_I0)) (decide_eq_decide.mpr (by omega))) (fun hx H4 e4 => ?_) (fun hx H4 e4 => ?_)
    · rcases hU with ⟨h1, _⟩ | ⟨_, _, ho⟩ | ⟨_, h1, _⟩
      · exact absurd hr h1
      · rw [ho] at q
        exact q.bad (e13.trans e4)
      · exact absurd (of_decide_eq_true hx) (by omega)
    · rcases hU with ⟨h1, _⟩ | ⟨_, h1, _⟩ | ⟨_, _, ho⟩
      · exact absurd hr h1
      · exact absurd h1 (of_decide_eq_false hx)
      · rw [ho] at q
        exact s_ret (ev_var rfl) fun H5 e5 => q.ok (e13.trans (e4.trans e5))
def sp_xT (mg : Str → Option Value) : Sp := fun vs H _ E => ∃ ss ts : List Nat, vs = [.str (tx ss), .str (tx ts)] ∧ (∃ c ∈ ts, c ∉ ss) ∧ ∀ H', Ex H H' → E (.ref (cadr mg "BadSign")) none H'
theorem ok_check_text_Vx {f : Addr} {fd : FuncData} (T : Txt K mg) (F : Fun K "check_text" "check_text" s_check_text f fd) : FnOk P w K mg base (L2.CX P w) 1 f fd ["signs", "text"] (sp_xT mg) := by
  refine F.okX sc_check_text (fun vs H Q E h => by obtain ⟨ss, ts, rfl, _⟩ := h; rfl) (fun cdv A outer s H vs Q E hr h => ?_)
  obtain ⟨ss, ts, rfl, ⟨c0, hc0, hn0⟩, q⟩ := h
  refine ⟨_, (pss_one (ps_for (passes_of rfl) rfl (pi_str (pv 1)) (pg_name (i := 2) sc_check_text.nd rfl (Or.inl rfl)) (pss_one (ps_if (pt_cmpR op_notIn_sign (pv 2) (pv 0) (by rfl)) (pss_one (ps_err T.ex_BadSign rfl (takes_of rfl rfl rfl rfl) (by rfl))) pss_nil)))), ?_⟩
  refine s_forS (ev_var rfl) (fun i σ' H' => Ex H H' ∧ (∀ j, j < i → ∀ c, ts[j]? = some c → c ∈ ss) ∧ ∃ y1, σ' = [some (.str (tx ss)), some (.str (tx ts)), y1]) (fun H2 e2 => ⟨e2, fun j hj => by omega, none, rfl⟩) (fun i c σ' H' hc p => ?_) (fun σ' H' p => ?_)
  · obtain ⟨e2, hj, y1, rfl⟩ := p
    refine s_when (b := !decide (c ∈ ss)) (et_test (ev_op (ev_var rfl) (ev_var rfl) (rv_niS (c := c) (l := ss)))) (fun hx H3 e3 => q H3 (e2.trans e3)) (fun hx H3 e3 => ⟨e2.trans e3, fun j hj' c' hc' => ?_, _, rfl⟩)
    by_cases hji : j < i
    · exact hj j hji c' hc'
    · have : j = i := by omega
      rw [this, hc] at hc'
      cases hc'
      cases h : decide (c ∈ ss) with
      | true => exact of_decide_eq_true h
      | false => rw [h] at hx; cases hx
  · obtain ⟨e2, hj, y1, rfl⟩ := p
    obtain ⟨j, hj', e⟩ := List.getElem_of_mem hc0
    exact absurd (hj j hj' c0 (by rw [List.getElem?_eq_getElem hj', e])) hn0
def sp_xPput (mg : Str → Option Value) : Sp := fun vs H _ E => ∃ (p l b : Addr) (B : Bk) (s : LS) (ts : List Nat) (av : List Addr), vs = [.ref p, .str (tx ts)] ∧ PckAt mg H p l b B s av ∧ (∃ c ∈ ts, c ∉ B.ss) ∧ ∀ H', Ex H H' → E (.ref (cadr mg "BadSign")) none H'
theorem ok_Packer_put_Vx {f : Addr} {fd : FuncData} (T : Txt K mg) (F : Fun K "put" "Packer.put" s_Packer_put f fd) (C_check_text_Vx : CalX P w K mg base "check_text" ["signs", "text"] 1 (sp_xT mg)) : FnOk P w K mg base (L2.CX P w) 2 f fd ["self", "part"] (sp_xPput mg) := by
  refine F.okX sc_Packer_put (fun vs H Q E h => by obtain ⟨p, l, b, B, s, ts, av, rfl, _⟩ := h; rfl) (fun cdv A outer s0 H vs Q E hr h => ?_)
  obtain ⟨p, l, b, B, s, ts, av, rfl, hP, hbad, q⟩ := h
  obtain ⟨dx, hp, hl, hpl, hbl, hbp⟩ := id hP
  refine ⟨_, (pss_cons (ps_expr (pe_calX C_check_text_Vx (pass_on (E := E) rfl rfl rfl rfl) hr (by decide) (by rfl) (pa_cons (pe_fld (pv 0) rfl) (pa_cons (pv 1) pa_nil))))
      (pss_cons ps_never
      (pss_cons ps_never
      (pss_one ps_never)))), ?_⟩
  exact q_dropQ (er_cal (ea_cons (ev_fld (ev_var rfl) hp T.cl_Packer T.na_Packer__signs (pf_signs _ _)) (ea_cons (ev_var rfl) ea_nil)) fun H1 e1 => ⟨B.ss, ts, rfl, hbad, fun H2 e2 => q H2 (e1.trans e2)⟩)
def sp_xpack (mg : Str → Option Value) : Sp := fun vs H _ E => ∃ (b : Addr) (B : Bk) (ts : List Nat), vs = [.ref b, .str (tx ts)] ∧ BookAt mg H b B ∧ BookOk B ∧ (∃ c ∈ ts, c ∉ B.ss) ∧ ∀ H', Ex H H' → E (.ref (cadr mg "BadSign")) none H'
theorem ok_pack_Vx {f : Addr} {fd : FuncData} (T : Txt K mg) (F : Fun K "pack" "pack" s_pack f fd) (M_Packer_put_Vx : MetX P w K mg base "Packer" "put" ["self", "part"] 2 (sp_xPput mg)) (N_Packer : Mkr P w K mg base "Packer" ["self", "book"] 7 (sp_Pinit mg)) : FnOk P w K mg base (L2.CX P w) 9 f fd ["book", "text"] (sp_xpack mg) := by
  refine F.okX sc_pack (fun vs H Q E h => by obtain ⟨b, B, ts, rfl, _⟩ := h; rfl) (fun cdv A outer s H vs Q E hr h => ?_)
  obtain ⟨b, B, ts, rfl, hb, hB, hbad, q⟩ := h
  refine ⟨_, (pss_one (ps_ret (pe_metX M_Packer_put_Vx (pass_on (E := E) rfl rfl rfl rfl) hr (by decide) (pe_mkr N_Packer hr (by decide) (by rfl) (pa_cons (pv 0) pa_nil)) (pa_cons (pv 1) pa_nil)))), ?_⟩
  refine s_retQ (er_of (q_packer (ea_cons (ev_var rfl) ea_nil) hb hB Taken.nil fun p l H2 hp hl e2 P2 => ?_))
  obtain ⟨dx, p2, _⟩ := id P2
  exact ⟨p, dx, _, rfl, p2, by unfold pf; (repeat (first | exact lk_eq | exact lk_nil | (refine (lk_ne (by decide +kernel)).trans ?_))), _, rfl, p, l, b, B, LS.start B, ts, [], rfl, P2, hbad, fun H3 e3 => q H3 (e2.trans e3)⟩
section
variable {te : TE} {ts : List TE} {acc : Str} {σ : L2.St} {H : Hp} {Q : Str → Hp → Prop}
theorem js_int {i : Int} (h : Ev te σ H (.int i)) (hz : i.natAbs.log2 < 1920) (hl : (acc ++ PySem.Str.ofString (toString i)).length ≤ sizeLine) (k : ∀ H1, Ex H H1 → tJs ts (acc ++ PySem.Str.ofString (toString i)) σ H1 Q) : tJs (tFmt te :: ts) acc σ H Q := by
  refine h H (Ex.refl _) _ ?_
  intro H1 e1
  exact Or.inr ⟨i, rfl, hz, _, rfl, hl, k H1 e1⟩
theorem js_str {y : Str} (h : Ev te σ H (.str y)) (hz : y.length ≤ sizeLine) (hl : (acc ++ y).length ≤ sizeLine) (k : ∀ H1, Ex H H1 → tJs ts (acc ++ y) σ H1 Q) : tJs (tFmt te :: ts) acc σ H Q := by
  refine h H (Ex.refl _) _ ?_
  intro H1 e1
  exact Or.inl ⟨y, rfl, hz, _, rfl, hl, k H1 e1⟩
theorem js_c {y : Str} (hl : (acc ++ y).length ≤ sizeLine) (k : tJs ts (acc ++ y) σ H Q) : tJs (tC (.str y) :: ts) acc σ H Q := ⟨y, rfl, hl, k⟩
end
def sp_xwritten (mg : Str → Option Value) : Sp := fun vs H _ E => ∃ (b : Addr) (B : Bk) (ts : List Nat), vs = [.ref b, .str (tx ts)] ∧ BookAt mg H b B ∧ BookOk B ∧ ts.length ≤ 2000 ∧ (∃ c ∈ ts, c ∉ B.ss) ∧ ∀ H', Ex H H' → E (.ref (cadr mg "BadSign")) none H'
theorem ok_written_Vx {f : Addr} {fd : FuncData} (T : Txt K mg) (F : Fun K "written" "written" s_written f fd) (C_pack_Vx : CalX P w K mg base "pack" ["book", "text"] 9 (sp_xpack mg)) : FnOk P w K mg base (L2.CX P w) 10 f fd ["book", "text"] (sp_xwritten mg) := by
  refine F.okX sc_written (fun vs H Q E h => by obtain ⟨b, B, ts, rfl, _⟩ := h; rfl) (fun cdv A outer s H vs Q E hr h => ?_)
  obtain ⟨b, B, ts, rfl, hb, hB, hn, hbad, q⟩ := h
  have hl2 : (dg ts.length).length ≤ 2000 := dg_len ts.length (by omega)
  refine ⟨_, (pss_one (ps_ret (pe_joined (.cons (pe_fmt (pe_callB call_len_str (by rfl) T.b_len PySem.boot_len (pa_cons (pv 1) pa_nil))) (.cons pe_str (.cons (pe_fmt (pe_calX C_pack_Vx (pass_on (E := E) rfl rfl rfl rfl) hr (by decide) (by rfl) (pa_cons (pv 0) (pa_cons (pv 1) pa_nil)))) .nil)))))), ?_⟩
  have e0 : Str.empty = tx [] := rfl
  refine s_retQ ?_
  refine js_int (i := (ts.length : Int)) (ev_is (ev_lenZ (ev_var rfl) (by rw [tx_len]; exact sz_of (by omega))) (by rw [tx_len])) (lg_of (by omega)) ?_ fun H1 e1 => js_c ?_ ?_
  · rw [dg_str, e0, tx_app, tx_len]
    exact sz_of (by simp; omega)
  · rw [dg_str, e0, strBl, tx_app, tx_app, tx_len]
    exact sz_of (by simp; omega)
  · exact er_cal (ea_cons (ev_var rfl) (ea_cons (ev_var rfl) ea_nil)) fun H2 e2 => ⟨b, B, ts, rfl, hb.ex (e1.trans e2), hB, hbad, fun H3 e3 => q H3 ((e1.trans e2).trans e3)⟩
def sp_yUinit (mg : Str → Option Value) : Sp := fun vs H _ E => ∃ (u : Addr) (y x : V), vs = [.ref u, y, x] ∧ Sc x ∧ whV x 0 2000 = false ∧ ∀ H', Ex H H' → E (.ref (cadr mg "BadCount")) none H'
theorem ok_Unpacker___init___Vx {f : Addr} {fd : FuncData} (T : Txt K mg) (F : Fun K "__init__" "Unpacker.__init__" s_Unpacker___init__ f fd) (C_is_whole_Vx : Cal P w K mg base "is_whole" ["value", "low", "high"] 1 sp_isV) : FnOk P w K mg base (L2.CX P w) 2 f fd ["self", "book", "many"] (sp_yUinit mg) := by
  refine F.okX sc_Unpacker___init__ (fun vs H Q E h => by obtain ⟨u, y, x, rfl, _⟩ := h; rfl) (fun cdv A outer s H vs Q E hr h => ?_)
  obtain ⟨u, y, x, rfl, hx, hb, q⟩ := h
  refine ⟨_, (pss_cons (ps_if (pt_not (pt_val (pe_cal C_is_whole_Vx hr (by decide) (by rfl) (pa_cons (pv 2) (pa_cons pe_int (pa_cons (pe_globX (by rfl) T.g_LONGEST_TEXT) pa_nil)))))) (pss_one (ps_err T.ex_BadCount rfl (takes_of rfl rfl rfl rfl) (by rfl))) pss_nil)
      (pss_cons ps_never
      (pss_cons ps_never
      (pss_cons ps_never
      (pss_one ps_never))))), ?_⟩
  exact q_when (b := true) (et_is (et_not (et_B (ev_cal (ea_cons (ev_var rfl) (ea_cons ev_c (ea_cons ev_c ea_nil))) (spv_isV hx)))) (by rw [hb]; rfl)) (fun _ H1 e1 => q H1 e1) (fun hx => nomatch hx)
def sp_yunpack (mg : Str → Option Value) : Sp := fun vs H _ E => ∃ (y z x : V), vs = [y, z, x] ∧ Sc x ∧ whV x 0 2000 = false ∧ ∀ H', Ex H H' → E (.ref (cadr mg "BadCount")) none H'
theorem ok_unpack_Vx {f : Addr} {fd : FuncData} (T : Txt K mg) (F : Fun K "unpack" "unpack" s_unpack f fd) (N_Unpacker_Vx : MkrX P w K mg base "Unpacker" ["self", "book", "many"] 2 (sp_yUinit mg)) : FnOk P w K mg base (L2.CX P w) 4 f fd ["book", "bits", "many"] (sp_yunpack mg) := by
  refine F.okX sc_unpack (fun vs H Q E h => by obtain ⟨y, z, x, rfl, _⟩ := h; rfl) (fun cdv A outer s H vs Q E hr h => ?_)
  obtain ⟨y, z, x, rfl, hx, hb, q⟩ := h
  refine ⟨_, (pss_cons (ps_set (i := 3) sc_unpack.nd rfl (Or.inl rfl) (pe_mkrX N_Unpacker_Vx (pass_on (E := E) rfl rfl rfl rfl) hr (by decide) (by rfl) (pa_cons (pv 0) (pa_cons (pv 2) pa_nil))))
      (pss_cons ps_never
      (pss_cons ps_never
      (pss_one ps_never)))), ?_⟩
  refine q_asgQ (er_mkr (ea_cons (ev_var rfl) (ea_cons (ev_var rfl) ea_nil)) fun H1 u dx e1 hu hd hn => ⟨u, y, x, rfl, hx, hb, fun H2 e2 => q H2 (e1.trans (ex_made hu hd (ExS.of e2)))⟩)
theorem ok_report_Vx {f : Addr} {fd : FuncData} (T : Txt K mg) (F : Fun K "report" "report" s_report f fd) (N_Packer : Mkr P w K mg base "Packer" ["self", "book"] 7 (sp_Pinit mg)) (M_Packer_put : Met P w K mg base "Packer" "put" ["self", "part"] 7 (sp_Pput mg)) (M_Packer_put_Vx : MetX P w K mg base "Packer" "put" ["self", "part"] 2 (sp_xPput mg)) : FnOk P w K mg base (L2.CX P w) 9 f fd ["book", "text"] (sp_xwritten mg) := by
  refine F.okX sc_report (fun vs H Q E h => by obtain ⟨b, B, ts, rfl, _⟩ := h; rfl) (fun cdv A outer s0 H vs Q E hr h => ?_)
  obtain ⟨b, B, ts, rfl, hb, hB, hlen, ⟨c0, hc0, hn0⟩, q⟩ := h
  obtain ⟨⟨hs1, hs2, _⟩, hz1, hz2, _⟩ := id hB
  refine ⟨_, (pss_cons (ps_set (i := 2) sc_report.nd rfl (Or.inl rfl) (pe_mkr N_Packer hr (by decide) (by rfl) (pa_cons (pv 0) pa_nil)))
      (pss_cons (ps_set (i := 3) sc_report.nd rfl (Or.inl rfl) (pe_lst pa_nil))
      (pss_cons (ps_for (passes_of rfl) rfl (pi_range3 (by rfl) T.b_range (pa_cons pe_int (pa_cons (pe_callB call_len_str (by rfl) T.b_len PySem.boot_len (pa_cons (pv 1) pa_nil)) (pa_cons (pe_fld (pv 0) rfl) pa_nil)))) (pg_name (i := 4) sc_report.nd rfl (Or.inl rfl)) (pss_cons (ps_set (i := 5) sc_report.nd rfl (Or.inl rfl) (pe_callTy call_list_of (by rfl) T.b_list (by decide +kernel) (pa_cons (pe_fld (pe_fld (pv 2) rfl) rfl) pa_nil)))
      (pss_one (ps_expr (pe_bm PySem.F.plainAttrs_list PySem.F.slot_list_append PySem.F.type_list_append mt_append (pv 3) (pa_cons (pe_tup (pa_cons (pv 5) (pa_cons (pe_either (pe_met M_Packer_put hr (by decide) (pv 2) (pa_cons (pe_slice sl_str (pv 1) (po_some (pv 4)) (po_some (pe_op op_add (pv 4) (pe_fld (pv 0) rfl)))) pa_nil)) (pe_metX M_Packer_put_Vx (pass_on (E := E) rfl rfl rfl rfl) hr (by decide) (pv 2) (pa_cons (pe_slice sl_str (pv 1) (po_some (pv 4)) (po_some (pe_op op_add (pv 4) (pe_fld (pv 0) rfl)))) pa_nil))) pa_nil))) pa_nil))))))
      (pss_one (ps_ret (pv 3)))))), ?_⟩
  refine q_asgQ (q_packer (ea_cons (ev_var rfl) ea_nil) hb hB Taken.nil fun p l H1 hp hl e1 P1 => ?_)
  refine q_asgL (el_lst ea_nil (by decide)) fun r H2 hr2 e2 h2 => ?_
  have hb2 := hb.ex (e1.trans e2)
  obtain ⟨dxb, b2⟩ := id hb2
  obtain ⟨_, _, _, hpl, hbl, hbp⟩ := id P1
  have P2 : PckAt mg H2 p l b B (LS.start B) [r] := (P1.ex e2).av ((P1.lrn.cons hr2).ex e2)
  refine q_for3 (n := ts.length) (c := B.size) (ea_cons ev_c (ea_cons (ev_is (ev_lenZ (ev_var rfl) (by rw [tx_len]; exact sz_of (by omega))) (by rw [tx_len])) (ea_cons (ev_fld (ev_var rfl) b2 T.cl_Book T.na_Book_size (bf_size B)) ea_nil))) hz1 (by omega) (by omega)
    (fun i σ' H' => ∃ y1 y2, σ' = [some (.ref b), some (.str (tx ts)), some (.ref p), some (.ref r), y1, y2] ∧ Ex H H' ∧ PckAt mg H' p l b B ((LS.start B).steps B (ts.take (i * B.size))) [r] ∧ Taken H' [r] ∧ (∃ us : List Addr, H' r = some (.lst (us.map V.ref)) ∧ us.length = i) ∧ (∀ c ∈ ts.take (i * B.size), c ∈ B.ss))
    (fun H3 e3 => ⟨_, _, rfl, (e1.trans e2).trans e3, by rw [Nat.zero_mul]; exact P2.ex e3, Taken.one (e3 _ _ h2), ⟨[], e3 _ _ h2, rfl⟩, by rw [Nat.zero_mul]; simp⟩) (fun i σ' H' hi inv => ?_) (fun σ' H' inv => ?_)
  · obtain ⟨y1, y2, rfl, x', P', v', ⟨us, r', hus⟩, hok⟩ := inv
    have hOi := LS.steps_ok hB (ts.take (i * B.size)) _ (LS.start_ok hB)
    obtain ⟨dx, p', a', _⟩ := id P'
    obtain ⟨dxl, shl, wdl, il, h3, h4, h5, h6⟩ := id a'
    have b' := hb.ex x'
    have htk : ts.take ((i + 1) * B.size) = ts.take (i * B.size) ++ (ts.drop (i * B.size)).take B.size := by
      rw [Nat.add_mul, Nat.one_mul, List.take_add]
    refine q_asgL (el_listof (ev_fld (ev_fld (ev_var rfl) p' T.cl_Packer T.na_Packer_learner (pf_learner _ _)) il T.cl_Learner T.na_Learner_shares (lf_shares _ _ _ _)) (sq_of h3)) fun sh H3 hsh e3 g3 => ?_
    have P3 := P'.ex e3
    have v3 := v'.ex e3
    have r3 := e3 _ _ r'
    have b3 := b'.ex e3
    obtain ⟨dxb3, b33⟩ := id b3
    obtain ⟨dx3, p3, a3, _⟩ := id P3
    have hml : ((ts.drop (i * B.size)).take B.size).length ≤ 2000 := by
      rw [List.length_take]
      omega
    refine ⟨.ref r, rfl, Or.inl ⟨rfl, _, sq_of r3⟩, ?_⟩
    refine ⟨.ref sh, rfl, ?_⟩
    have lk : (pf l B.ss).lookup ("put" : Str) = none := by unfold pf; (repeat (first | exact lk_eq | exact lk_nil | (refine (lk_ne (by decide +kernel)).trans ?_)))
    by_cases hms : ∀ c ∈ (ts.drop (i * B.size)).take B.size, c ∈ B.ss
    · refine Or.inl (er_met (ev_var rfl) p3 lk (ea_cons (ev_is (ev_midS (i := i * B.size) (j := i * B.size + B.size) (ev_var rfl) (ev_var rfl) (ev_is (ev_op (ev_var rfl) (ev_fld (ev_var rfl) b33 T.cl_Book T.na_Book_size (bf_size B)) rv_I0) (by rw [Int.natCast_add])) (by omega)) (by rw [Nat.add_sub_cancel_left])) ea_nil) fun H4 e4 => ?_)
      refine ⟨p, l, b, B, _, (ts.drop (i * B.size)).take B.size, [r], rfl, P3.ex e4, v3.ex e4, b3.ex e4, hB, hOi, hms, hml, fun H5 x5 P5 => ?_⟩
      have i4 : InsAt H4 [l] := (a3.ex e4).insAt
      refine ⟨by show 2 ≤ sizeLine; decide, fun u hu => ?_⟩
      have eu := Ex.new (o := .tup [.ref sh, .str (tx (packF B ((LS.start B).steps B (ts.take (i * B.size))) ((ts.drop (i * B.size)).take B.size)))]) hu
      have r6 := eu _ _ (x5 _ _ (i4.not (e4 _ _ r3)) (e4 _ _ r3))
      have nrl : r ≠ l := fun z => by
        obtain ⟨C, dx, fs, h⟩ := a3.ins
        rw [← z, r3] at h
        cases h
      have npr : p ≠ r := fun z => by rw [z, r3] at p3; cases p3
      have x6 : ExS [r] (upd H5 u (.tup [.ref sh, .str (tx (packF B ((LS.start B).steps B (ts.take (i * B.size))) ((ts.drop (i * B.size)).take B.size)))])) (upd (upd H5 u (.tup [.ref sh, .str (tx (packF B ((LS.start B).steps B (ts.take (i * B.size))) ((ts.drop (i * B.size)).take B.size)))])) r (.lst (us.map V.ref ++ [.ref u]))) := ExS.refl.upd (by simp)
      have hln : us.length < 100000 := by
        have : turns ts.length B.size ≤ 2000 := by
          unfold turns
          split
          · have := Nat.div_le_self (ts.length - 1) B.size
            omega
          · omega
        omega
      refine ⟨r, us.map V.ref, .ref u, rfl, rfl, r6, sz_lt (by rw [List.length_map]; exact hln), _, _, rfl, ?_, ?_, Taken.one upd_same, ⟨us ++ [u], by rw [upd_same, List.map_append]; rfl, by rw [List.length_append, hus]; rfl⟩, ?_⟩
      · intro a o h
        have n1 : a ≠ r := fun z => by rw [z, fresh_back e1 hr2] at h; cases h
        have n2 : a ≠ l := fun z => by rw [z, hl] at h; cases h
        exact x6 _ _ (by simpa using n1) (eu _ _ (x5 _ _ (by simpa using n2) (e4 _ _ (e3 _ _ (x' _ _ h)))))
      · rw [htk, LS.steps_app]
        have P6 := P5.ex eu
        exact P6.exS x6 (by simpa using npr) (P6.lrn.mut x6 (by simpa using Ne.symm nrl) (by simp))
      · rw [htk]
        intro c hc
        rcases List.mem_append.mp hc with hc | hc
        · exact hok c hc
        · exact hms c hc
    · have ⟨c, hc, hn⟩ : ∃ c ∈ (ts.drop (i * B.size)).take B.size, c ∉ B.ss := by
        refine Classical.byContradiction fun h => hms fun c hc => Classical.byContradiction fun hn => h ⟨c, hc, hn⟩
      exact Or.inr (er_met (ev_var rfl) p3 lk (ea_cons (ev_is (ev_midS (i := i * B.size) (j := i * B.size + B.size) (ev_var rfl) (ev_var rfl) (ev_is (ev_op (ev_var rfl) (ev_fld (ev_var rfl) b33 T.cl_Book T.na_Book_size (bf_size B)) rv_I0) (by rw [Int.natCast_add])) (by omega)) (by rw [Nat.add_sub_cancel_left])) ea_nil) fun H4 e4 => ⟨p, l, b, B, _, _, [r], rfl, P3.ex e4, ⟨c, hc, hn⟩, fun H5 e5 => q H5 (((x'.trans e3).trans e4).trans e5)⟩)
  · obtain ⟨y1, y2, rfl, x', P', v', _, hok⟩ := inv
    have hlong : ts.length ≤ turns ts.length B.size * B.size := by
      unfold turns
      split
      · have h1 := Nat.div_add_mod (ts.length - 1) B.size
        have h2 := Nat.mod_lt (ts.length - 1) (show B.size > 0 by omega)
        rw [Nat.add_mul, Nat.one_mul, Nat.mul_comm]
        omega
      · omega
    rw [List.take_of_length_le hlong] at hok
    exact absurd (hok c0 hc0) hn0
theorem ev_int1b {ta : TE} {σ : L2.St} {H : Hp} {b : Bool} (ha : Ev ta σ H (.bl b)) : Ev (tCB (fun xs H Q => (∃ i, xs = [.int i] ∧ Q (.int i) H) ∨ ∃ k, xs = [.bl k] ∧ Q (.int (if k then 1 else 0)) H) (tCons ta tNil)) σ H (.int (if b then 1 else 0)) :=
  ev_cb (ea_cons ha ea_nil) fun H1 _ Q q => .inr ⟨b, rfl, q H1 (Ex.refl _)⟩
def fiveE : List Str := ["BadCount", "BadBit", "Loose", "Short", "BadSign"]
def sp_kinds (mg : Str → Option Value) : Value → Addr → Sp := fun cls a vs H Q _ => ∃ D : Str, D ∈ fiveE ∧ cls = .ref (cadr mg D) ∧ vs = [.ref a] ∧ RetV (.bl true) H Q
theorem kd_of (T : Txt K mg) {D : Str} (h : D ∈ fiveE) : Kinds K mg D := by
  unfold fiveE at h
  simp only [List.mem_cons, List.not_mem_nil, or_false] at h
  rcases h with rfl | rfl | rfl | rfl | rfl
  · exact T.kd_BadCount
  · exact T.kd_BadBit
  · exact T.kd_Loose
  · exact T.kd_Short
  · exact T.kd_BadSign
theorem ok_kinds {f : Addr} {fd : FuncData} (T : Txt K mg) (F : Fun K "_law_kinds" "_law_kinds" s_kinds f fd) : FnE P w K mg base 1 f fd ["_law_e"] (sp_kinds mg) := by
  obtain ⟨oc, od, kV, doc, pm, an, cdv, ct, osl, rfl, lk, hcd⟩ := F.ex
  refine fn_ofE lk hcd sc_kinds (fun cls a vs H Q E h => by obtain ⟨D, _, _, rfl, _⟩ := h; rfl) (fun A outer s0 H vs Q E p cls hz hf hr h => ?_)
  obtain ⟨D, hD, rfl, rfl, q⟩ := h
  have KD := kd_of T hD
  refine ⟨_, (pss_cons (ps_set (i := 1) sc_kinds.nd rfl (Or.inl rfl) (pe_op op_add (pe_op op_add (pe_callTy call_int1 (by rfl) T.b_int (by decide +kernel) (pa_cons (pe_callB (call_isP (a := p.1) (oe := p.2) (List.mem_singleton.mpr rfl) KD.ec hz hf) (by rfl) T.b_isinstance (by decide +kernel) (pa_cons (pv 0) (pa_cons (pe_glob (v := .ref (cadr mg "BadBook")) (by rfl) T.mc_BadBook rfl) pa_nil))) pa_nil)) (pe_callTy call_int1 (by rfl) T.b_int (by decide +kernel) (pa_cons (pe_callB (call_isP (a := p.1) (oe := p.2) (List.mem_singleton.mpr rfl) KD.ec hz hf) (by rfl) T.b_isinstance (by decide +kernel) (pa_cons (pv 0) (pa_cons (pe_glob (v := .ref (cadr mg "BadShares")) (by rfl) T.mc_BadShares rfl) pa_nil))) pa_nil))) (pe_callTy call_int1 (by rfl) T.b_int (by decide +kernel) (pa_cons (pe_callB (call_isP (a := p.1) (oe := p.2) (List.mem_singleton.mpr rfl) KD.ec hz hf) (by rfl) T.b_isinstance (by decide +kernel) (pa_cons (pv 0) (pa_cons (pe_glob (v := .ref (cadr mg "BadSign")) (by rfl) T.mc_BadSign rfl) pa_nil))) pa_nil))))
      (pss_cons (ps_set (i := 1) sc_kinds.nd rfl (Or.inl rfl) (pe_op op_add (pe_op op_add (pe_op op_add (pv 1) (pe_callTy call_int1 (by rfl) T.b_int (by decide +kernel) (pa_cons (pe_callB (call_isP (a := p.1) (oe := p.2) (List.mem_singleton.mpr rfl) KD.ec hz hf) (by rfl) T.b_isinstance (by decide +kernel) (pa_cons (pv 0) (pa_cons (pe_glob (v := .ref (cadr mg "BadCount")) (by rfl) T.mc_BadCount rfl) pa_nil))) pa_nil))) (pe_callTy call_int1 (by rfl) T.b_int (by decide +kernel) (pa_cons (pe_callB (call_isP (a := p.1) (oe := p.2) (List.mem_singleton.mpr rfl) KD.ec hz hf) (by rfl) T.b_isinstance (by decide +kernel) (pa_cons (pv 0) (pa_cons (pe_glob (v := .ref (cadr mg "BadBit")) (by rfl) T.mc_BadBit rfl) pa_nil))) pa_nil))) (pe_callTy call_int1 (by rfl) T.b_int (by decide +kernel) (pa_cons (pe_callB (call_isP (a := p.1) (oe := p.2) (List.mem_singleton.mpr rfl) KD.ec hz hf) (by rfl) T.b_isinstance (by decide +kernel) (pa_cons (pv 0) (pa_cons (pe_glob (v := .ref (cadr mg "Loose")) (by rfl) T.mc_Loose rfl) pa_nil))) pa_nil))))
      (pss_cons (ps_set (i := 1) sc_kinds.nd rfl (Or.inl rfl) (pe_op op_add (pe_op op_add (pv 1) (pe_callTy call_int1 (by rfl) T.b_int (by decide +kernel) (pa_cons (pe_callB (call_isP (a := p.1) (oe := p.2) (List.mem_singleton.mpr rfl) KD.ec hz hf) (by rfl) T.b_isinstance (by decide +kernel) (pa_cons (pv 0) (pa_cons (pe_glob (v := .ref (cadr mg "Short")) (by rfl) T.mc_Short rfl) pa_nil))) pa_nil))) (pe_callTy call_int1 (by rfl) T.b_int (by decide +kernel) (pa_cons (pe_callB (call_isP (a := p.1) (oe := p.2) (List.mem_singleton.mpr rfl) KD.ec hz hf) (by rfl) T.b_isinstance (by decide +kernel) (pa_cons (pv 0) (pa_cons (pe_glob (v := .ref (cadr mg "BadLine")) (by rfl) T.mc_BadLine rfl) pa_nil))) pa_nil))))
      (pss_one (ps_ret (pe_and (pe_cmpR op_eq (pv 1) pe_int (nomark _)) (pe_and (pe_callB (call_isP (a := p.1) (oe := p.2) (List.mem_singleton.mpr rfl) KD.ec hz hf) (by rfl) T.b_isinstance (by decide +kernel) (pa_cons (pv 0) (pa_cons (pe_glob (v := .ref (cadr mg "PackError")) (by rfl) T.mc_PackError rfl) pa_nil))) (pe_one (pe_callB (call_isP (a := p.1) (oe := p.2) (List.mem_singleton.mpr rfl) KD.ec hz hf) (by rfl) T.b_isinstance (by decide +kernel) (pa_cons (pv 0) (pa_cons (pe_bltn (v := .ty "ValueError") (by rfl) T.b_ValueError (by decide +kernel) rfl) pa_nil))))))))))), ?_⟩
  refine q_asg (ev_op (ev_op (ev_int1b (ev_isP (ev_var rfl) ev_c (kd_is KD.self KD.k1))) (ev_int1b (ev_isP (ev_var rfl) ev_c (kd_is KD.self KD.k2))) rv_I0) (ev_int1b (ev_isP (ev_var rfl) ev_c (kd_is KD.self KD.k3))) rv_I0) fun H1 e1 => ?_
  refine q_asg (ev_op (ev_op (ev_op (ev_var rfl) (ev_int1b (ev_isP (ev_var rfl) ev_c (kd_is KD.self KD.k4))) rv_I0) (ev_int1b (ev_isP (ev_var rfl) ev_c (kd_is KD.self KD.k5))) rv_I0) (ev_int1b (ev_isP (ev_var rfl) ev_c (kd_is KD.self KD.k6))) rv_I0) fun H2 e2 => ?_
  refine q_asg (ev_op (ev_op (ev_var rfl) (ev_int1b (ev_isP (ev_var rfl) ev_c (kd_is KD.self KD.k7))) rv_I0) (ev_int1b (ev_isP (ev_var rfl) ev_c (kd_is KD.self KD.k8))) rv_I0) fun H3 e3 => ?_
  refine s_ret (ev_is (ev_andV (a := true) (ev_is (ev_op (ev_var rfl) ev_c (rv_eq rfl)) ?_) fun _ => ev_andV (ev_isP (ev_var rfl) ev_c KD.pe) fun _ => ev_isPt (ev_var rfl) ev_c KD.ve) rfl) fun H4 e4 => q H4 (((e1.trans e2).trans e3).trans e4)
  unfold fiveE at hD
  simp only [List.mem_cons, List.not_mem_nil, or_false] at hD
  rcases hD with rfl | rfl | rfl | rfl | rfl <;> rfl
def toldW (D : Str) : Str := if D = "BadCount" then "countTrue" else if D = "BadBit" then "bitTrue" else if D = "Loose" then "looseTrue" else if D = "Short" then "shortTrue" else "signTrue"
/-- what it tells of the function's reading -/
def spA_told (mg : Str → Option Value) : (XK → Hp → VK → Prop) → Hp → VK → Prop := fun tl H Q => tl (fun cls d H' => ∃ D ∈ fiveE, cls = .ref (cadr mg D) ∧ d = none ∧ RetV (.str (toldW D)) H' Q) H (fun _ H' => RetV (.str "") H' Q)
section
variable {mg : Str → Option Value} {K : PySem.W.Frag} {σ : L2.St} {H H0 : Hp} {D : Str} {Dn : Ends} {a : Addr} {Q : VK} {y : Str} {i j : Nat}
/-- one clause's suite -/
theorem told_suite {tf : TE} (hD : D ∈ fiveE) (hv : Ev tf (σ.set 2 (some (.ref a))) H (.ref a)) (hy : y.length ≤ 100) (k : ∀ H1, Ex H H1 → Dn.nx (((σ.set 2 (some (.ref a))).set 1 (some (.str (y ++ "True")))).set 2 none) H1) :
    tAsg (tOp (fun x y H Q => ∃ i j, x = .str i ∧ y = .str j ∧ i.length + j.length ≤ sizeLine ∧ Q (.str (i ++ j)) H) (tC (.str y)) (tCB (fun xs H Q => ∃ b, xs = [.bl b] ∧ Q (.str (if b then "True" else "False")) H) (tCons (tCallE (sp_kinds mg) (.ref (cadr mg D)) none a (tCons tf tNil)) tNil))) (gName 1)
      { nx := fun σ' H' => Dn.nx (σ'.set 2 none) H', rt := Dn.rt, bk := fun σ' H' => Dn.bk (σ'.set 2 none) H', ct := fun σ' H' => Dn.ct (σ'.set 2 none) H' } (σ.set 2 (some (.ref a))) H :=
  s_asg (ev_op ev_c (ev_cb (z := .str "True") (ea_cons (ev_calE (z := .bl true) (ea_cons hv ea_nil) fun H1 _ Q q => ⟨D, hD, rfl, rfl, q⟩) ea_nil) fun H1 _ Q q => ⟨true, rfl, q H1 (Ex.refl _)⟩) (rv_addS (by
    show y.length + 4 ≤ _
    exact Nat.le_trans (Nat.add_le_add_right hy 4) (sz_of (by decide))))) k
end
theorem ok_told {f : Addr} {fd : FuncData} (T : Txt K mg) (F : Fun K "_law_told" "_law_told" s_told f fd) (C__law_kinds : CalE P w K mg base "_law_kinds" ["_law_e"] 1 (sp_kinds mg)) : FnA P w K mg base 13 12 f fd "_law_call" (spA_told mg) := by
  refine fn_ofA F sc_told fun cdv A outer s H f L tl Q hr act lam h => ?_
  refine ⟨_, (pss_cons (ps_set (i := 1) sc_told.nd rfl (Or.inl rfl) pe_str)
      (pss_cons (ps_try_manyAs (i := 2) rfl rfl sc_told.nd rfl rfl takes0 (fun W pn xe tk _ => (pss_one (ps_expr (pe_act0 (i := 0) act rfl rfl rfl rfl tk hr (by decide) rfl (by first | exact Or.inl rfl | exact Or.inr (Or.inl rfl))))))
      (.cons ⟨rfl, by decide, .inl T.mc_BadCount⟩ (fun a oe cls d pn hz hf => (pss_one (ps_set (i := 1) sc_told.nd rfl (Or.inl rfl) (pe_op op_add_str pe_str (pe_callTy call_str_bl (by rfl) T.b_str (by decide +kernel) (pa_cons (pe_calE (k' := 12) C__law_kinds ⟨hr.dp, hr.un⟩ (by decide) hz hf List.mem_cons_self (by rfl) (pa_cons (pv 2) pa_nil)) pa_nil))))))
      (.cons ⟨rfl, by decide, .inl T.mc_BadBit⟩ (fun a oe cls d pn hz hf => (pss_one (ps_set (i := 1) sc_told.nd rfl (Or.inl rfl) (pe_op op_add_str pe_str (pe_callTy call_str_bl (by rfl) T.b_str (by decide +kernel) (pa_cons (pe_calE (k' := 12) C__law_kinds ⟨hr.dp, hr.un⟩ (by decide) hz hf List.mem_cons_self (by rfl) (pa_cons (pv 2) pa_nil)) pa_nil))))))
      (.cons ⟨rfl, by decide, .inl T.mc_Loose⟩ (fun a oe cls d pn hz hf => (pss_one (ps_set (i := 1) sc_told.nd rfl (Or.inl rfl) (pe_op op_add_str pe_str (pe_callTy call_str_bl (by rfl) T.b_str (by decide +kernel) (pa_cons (pe_calE (k' := 12) C__law_kinds ⟨hr.dp, hr.un⟩ (by decide) hz hf List.mem_cons_self (by rfl) (pa_cons (pv 2) pa_nil)) pa_nil))))))
      (.cons ⟨rfl, by decide, .inl T.mc_Short⟩ (fun a oe cls d pn hz hf => (pss_one (ps_set (i := 1) sc_told.nd rfl (Or.inl rfl) (pe_op op_add_str pe_str (pe_callTy call_str_bl (by rfl) T.b_str (by decide +kernel) (pa_cons (pe_calE (k' := 12) C__law_kinds ⟨hr.dp, hr.un⟩ (by decide) hz hf List.mem_cons_self (by rfl) (pa_cons (pv 2) pa_nil)) pa_nil))))))
      (.cons ⟨rfl, by decide, .inl T.mc_BadSign⟩ (fun a oe cls d pn hz hf => (pss_one (ps_set (i := 1) sc_told.nd rfl (Or.inl rfl) (pe_op op_add_str pe_str (pe_callTy call_str_bl (by rfl) T.b_str (by decide +kernel) (pa_cons (pe_calE (k' := 12) C__law_kinds ⟨hr.dp, hr.un⟩ (by decide) hz hf List.mem_cons_self (by rfl) (pa_cons (pv 2) pa_nil)) pa_nil))))))
      .nil))))))
      (pss_one (ps_ret (pv 1))))), ?_⟩
  refine And.intro rfl (And.intro lam (Exists.intro (fun cls d H' => ∃ D ∈ fiveE, cls = .ref (cadr mg D) ∧ d = none ∧ RetV (.str (toldW D)) H' Q) (Exists.intro (fun _ H' => RetV (.str "") H' Q) (And.intro (fun cls d H' g => ?_) (And.intro (fun v H' g => ?_) h)))))
  · obtain ⟨D, hD, rfl, rfl, q⟩ := g
    have hD' := hD
    unfold fiveE at hD
    simp only [List.mem_cons, List.not_mem_nil, or_false] at hD
    rcases hD with rfl | rfl | rfl | rfl | rfl
    · exact clause_yes T.xm_BadCount_BadCount fun a ha => told_suite hD' (ev_var rfl) (by decide) fun H4 e4 => s_ret (ev_var rfl) fun H5 e5 => q H5 (e4.trans e5)
    · exact clause_no T.xm_BadBit_BadCount (clause_yes T.xm_BadBit_BadBit fun a ha => told_suite hD' (ev_var rfl) (by decide) fun H4 e4 => s_ret (ev_var rfl) fun H5 e5 => q H5 (e4.trans e5))
    · exact clause_no T.xm_Loose_BadCount (clause_no T.xm_Loose_BadBit (clause_yes T.xm_Loose_Loose fun a ha => told_suite hD' (ev_var rfl) (by decide) fun H4 e4 => s_ret (ev_var rfl) fun H5 e5 => q H5 (e4.trans e5)))
    · exact clause_no T.xm_Short_BadCount (clause_no T.xm_Short_BadBit (clause_no T.xm_Short_Loose (clause_yes T.xm_Short_Short fun a ha => told_suite hD' (ev_var rfl) (by decide) fun H4 e4 => s_ret (ev_var rfl) fun H5 e5 => q H5 (e4.trans e5))))
    · exact clause_no T.xm_BadSign_BadCount (clause_no T.xm_BadSign_BadBit (clause_no T.xm_BadSign_Loose (clause_no T.xm_BadSign_Short (clause_yes T.xm_BadSign_BadSign fun a ha => told_suite hD' (ev_var rfl) (by decide) fun H4 e4 => s_ret (ev_var rfl) fun H5 e5 => q H5 (e4.trans e5)))))
  · exact Exists.intro _ (And.intro rfl (g H' (Ex.refl _)))
theorem ev_ixD {σ : L2.St} {H : Hp} {ta tb : TE} {xs : List V} {v : V} {i : Int} (ha : EvL ta σ H xs) (hb : ∀ H1, Ex H H1 → Ev tb σ H1 (.int i)) (hat : atI xs i = some v) : Ev (tOp (rIxL K) ta tb) σ H v :=
  ev_opL1 ha hb fun p H1 hp _ => rv_ixL (sq_of hp) hat
theorem at_getD {xs : List V} {i : Int} (h0 : 0 ≤ i) (h1 : i < xs.length) : atI xs i = some (xs.getD i.toNat .non) := by
  obtain ⟨k, rfl⟩ : ∃ k : Nat, i = (k : Int) := ⟨i.toNat, by omega⟩
  refine atI_nat ?_
  rw [Int.toNat_natCast, List.getD_eq_getElem?_getD, List.getElem?_eq_getElem (by omega)]
  rfl
theorem getD_mem {xs : List V} {i : Int} (h0 : 0 ≤ i) (h1 : i < xs.length) : xs.getD i.toNat .non ∈ xs := by
  rw [List.getD_eq_getElem?_getD, List.getElem?_eq_getElem (by omega)]
  exact List.getElem_mem _
def cntL (n : Int) : List V := [.int n, .int (n + 1), .int (n - 1), .int 2001, .int (-1), .bl true, .non, .str "2", .bl false]
theorem cntL_sc (n : Int) : ∀ x ∈ cntL n, Sc x := fun x hx => by
  unfold cntL at hx
  simp only [List.mem_cons, List.not_mem_nil, or_false] at hx
  rcases hx with rfl | rfl | rfl | rfl | rfl | rfl | rfl | rfl | rfl
  · exact .int _
  · exact .int _
  · exact .int _
  · exact .int _
  · exact .int _
  · exact .bl _
  · exact .non
  · exact .str _
  · exact .bl _
theorem cntL_at (c n : Int) : Sc ((cntL n).getD (c % 9).toNat .non) := cntL_sc n _ (getD_mem (Int.emod_nonneg c (by decide)) (show c % 9 < 9 from Int.emod_lt_of_pos c (by decide)))
def sp_cntDrawn (K : PySem.W.Frag) : Sp := fun vs H Q _ => ∃ c n : Int, vs = [.int c, .int n] ∧ RetV ((cntL n).getD (c % 9).toNat .non) H Q
theorem ok_count_drawn {f : Addr} {fd : FuncData} (T : Txt K mg) (F : Fun K "_law_count_drawn" "_law_count_drawn" s_count_drawn f fd) : FnOk P w K mg base CX0 1 f fd ["_law_cell", "_law_many"] (sp_cntDrawn K) := by
  refine F.ok sc_count_drawn (fun vs H Q E h => by obtain ⟨c, n, rfl, _⟩ := h; rfl) (fun cdv A outer s H vs Q E hr h => ?_)
  obtain ⟨c, n, rfl, q⟩ := h
  refine ⟨_, (pss_one (ps_ret (pe_ix ix_list (pe_lst (pa_cons (pv 1) (pa_cons (pe_op op_add (pv 1) pe_int) (pa_cons (pe_op op_sub (pv 1) pe_int) (pa_cons pe_int (pa_cons (pe_un un_neg pe_int) (pa_cons pe_bl (pa_cons pe_non (pa_cons pe_str (pa_cons pe_bl pa_nil)))))))))) (pe_op op_mod (pv 0) pe_int) (fun _ _ => rfl)))), ?_⟩
  have g1 := Int.emod_nonneg c (show (9 : Int) ≠ 0 by decide)
  have g2 := Int.emod_lt_of_pos c (show (0 : Int) < 9 by decide)
  exact s_ret (ev_ixD (xs := cntL n) (el_lst (ea_cons (ev_var rfl) (ea_cons (ev_op (ev_var rfl) ev_c rv_I0) (ea_cons (ev_op (ev_var rfl) ev_c rv_I0) (ea_cons ev_c (ea_cons (ev_is (ev_un ev_c fun H1 _ Q q => ⟨1, rfl, q H1 (Ex.refl _)⟩) rfl) (ea_cons ev_c (ea_cons ev_c (ea_cons ev_c (ea_cons ev_c ea_nil))))))))) (by show 9 ≤ 100000; decide)) (fun _ _ => ev_op (ev_var rfl) ev_c (rv_mod (by decide))) (at_getD g1 g2)) fun H2 e2 => q H2 e2
def sp_cntDue : Sp := fun vs H Q _ => ∃ x : V, vs = [x] ∧ Sc x ∧ RetV (.bl (whV x 0 2000)) H Q
theorem ok_count_due {f : Addr} {fd : FuncData} (T : Txt K mg) (F : Fun K "_law_count_due" "_law_count_due" s_count_due f fd) : FnOk P w K mg base CX0 1 f fd ["_law_thing"] sp_cntDue := by
  refine F.ok sc_count_due (fun vs H Q E h => by obtain ⟨x, rfl, _⟩ := h; rfl) (fun cdv A outer s H vs Q E hr h => ?_)
  obtain ⟨x, rfl, hx, q⟩ := h
  refine ⟨_, (pss_cons (ps_if (PW.pt (pw_or (pt_val (pe_callB call_isi (by rfl) T.b_isinstance (by decide +kernel) (pa_cons (pv 0) (pa_cons (pe_bltn (v := .ty "bool") (by rfl) T.b_bool (by decide +kernel) rfl) pa_nil)))) (pw_or1 (pt_not (pt_val (pe_callB call_isi (by rfl) T.b_isinstance (by decide +kernel) (pa_cons (pv 0) (pa_cons (pe_bltn (v := .ty "int") (by rfl) T.b_int (by decide +kernel) rfl) pa_nil)))))))) (pss_one (ps_ret pe_bl)) pss_nil)
      (pss_one (ps_ret (pe_chain op_le op_le pe_int (pv 0) pe_int)))), ?_⟩
  cases hx with
  | int v =>
    refine q_when (b := false) (et_or (a := false) (et_B (ev_isi (ev_var rfl) ev_c (fun _ _ => ty_int) (by decide +kernel))) fun _ => et_not (a := true) (et_B (ev_isi (ev_var rfl) ev_c (fun _ _ => ty_int) (by decide +kernel)))) (fun hx => nomatch hx) (fun _ H1 e1 => ?_)
    exact s_ret (ev_is (ev_chain ev_c (ev_var rfl) ev_c) (w := .bl (whV (.int v) 0 2000)) rfl) fun H2 e2 => q H2 (e1.trans e2)
  | bl b =>
    refine q_when (b := true) (et_or (a := true) (b := false) (et_B (ev_isi (ev_var rfl) ev_c (fun _ _ => ty_bl) (by decide +kernel))) fun hx => nomatch hx) (fun _ H1 e1 => ?_) (fun hx => nomatch hx)
    exact s_ret ev_c fun H2 e2 => q H2 (e1.trans e2)
  | str y =>
    refine q_when (b := true) (et_or (a := false) (et_B (ev_isi (ev_var rfl) ev_c (fun _ _ => ty_str) (by decide +kernel))) fun _ => et_not (a := false) (et_B (ev_isi (ev_var rfl) ev_c (fun _ _ => ty_str) (by decide +kernel)))) (fun _ H1 e1 => ?_) (fun hx => nomatch hx)
    exact s_ret ev_c fun H2 e2 => q H2 (e1.trans e2)
  | non =>
    refine q_when (b := true) (et_or (a := false) (et_B (ev_isi (ev_var rfl) ev_c (fun _ _ => ty_non) (by decide +kernel))) fun _ => et_not (a := false) (et_B (ev_isi (ev_var rfl) ev_c (fun _ _ => ty_non) (by decide +kernel)))) (fun _ H1 e1 => ?_) (fun hx => nomatch hx)
    exact s_ret ev_c fun H2 e2 => q H2 (e1.trans e2)
/-- a text put into another -/
def putIn (l : List Nat) (at_ : Int) (m : List Nat) : List Nat := l.take (at_ % ((l.length : Int) + 1)).toNat ++ m ++ l.drop (at_ % ((l.length : Int) + 1)).toNat
theorem putIn_mem {l m : List Nat} {at_ : Int} {c : Nat} (h : c ∈ m) : c ∈ putIn l at_ m := List.mem_append_left _ (List.mem_append_right _ h)
theorem putIn_len {l m : List Nat} {at_ : Int} : (putIn l at_ m).length = l.length + m.length := by
  unfold putIn
  rw [List.length_append, List.length_append, List.length_take, List.length_drop]
  omega
def sp_putIn : Sp := fun vs H Q _ => ∃ (l : List Nat) (at_ : Int) (m : List Nat), vs = [.str (tx l), .int at_, .str (tx m)] ∧ l.length ≤ 20000 ∧ m.length ≤ 100 ∧ RetV (.str (tx (putIn l at_ m))) H Q
theorem ev_addT {σ : L2.St} {H : Hp} {ta tb : TE} {a b : List Nat} (ha : Ev ta σ H (.str (tx a))) (hb : Ev tb σ H (.str (tx b))) (hz : a.length + b.length ≤ 90000) : Ev (tOp (fun x y H Q => ∃ i j, x = .str i ∧ y = .str j ∧ i.length + j.length ≤ sizeLine ∧ Q (.str (i ++ j)) H) ta tb) σ H (.str (tx (a ++ b))) :=
  ev_is (ev_op ha hb (rv_addS (by rw [tx_len, tx_len]; exact sz_of (by omega)))) (by rw [tx_app])
theorem ok_put_in {f : Addr} {fd : FuncData} (T : Txt K mg) (F : Fun K "_law_put_in" "_law_put_in" s_put_in f fd) : FnOk P w K mg base CX0 1 f fd ["_law_row", "_law_at", "_law_sign"] sp_putIn := by
  refine F.ok sc_put_in (fun vs H Q E h => by obtain ⟨l, at_, m, rfl, _⟩ := h; rfl) (fun cdv A outer s H vs Q E hr h => ?_)
  obtain ⟨l, at_, m, rfl, hl, hm, q⟩ := h
  refine ⟨_, (pss_cons (ps_set (i := 3) sc_put_in.nd rfl (Or.inl rfl) (pe_op op_mod (pv 1) (pe_op op_add (pe_callB call_len_str (by rfl) T.b_len PySem.boot_len (pa_cons (pv 0) pa_nil)) pe_int)))
      (pss_one (ps_ret (pe_op op_add_str (pe_op op_add_str (pe_slice sl_str (pv 0) po_none (po_some (pv 3))) (pv 2)) (pe_slice sl_str (pv 0) (po_some (pv 3)) po_none))))), ?_⟩
  have g1 := Int.emod_nonneg at_ (show (l.length : Int) + 1 ≠ 0 by omega)
  have g2 := Int.emod_lt_of_pos at_ (show (0 : Int) < (l.length : Int) + 1 by omega)
  refine q_asg (v := .int (((at_ % ((l.length : Int) + 1)).toNat : Nat) : Int)) (ev_is (ev_op (ev_var rfl) (ev_op (ev_is (ev_lenZ (ev_var rfl) (by rw [tx_len]; exact sz_of (by omega))) (by rw [tx_len])) ev_c rv_I0) (rv_mod (by omega))) (congrArg V.int (by omega))) fun H1 e1 => ?_
  unfold putIn at q
  generalize (at_ % ((l.length : Int) + 1)).toNat = k at q ⊢
  exact s_ret (ev_addT (ev_addT (ev_toS (ev_var rfl) (ev_var rfl) (by omega)) (ev_var rfl) (by simp; omega)) (ev_fromS (ev_var rfl) (ev_var rfl) (by omega)) (by simp; omega)) fun H2 e2 => q H2 (e1.trans e2)
def HoldsL (K : PySem.W.Frag) (H : Hp) (p l : Addr) : Prop := ∃ C dx fs, H p = some (.ins C dx fs) ∧ Cls K C ∧ NoAttr K C "learner" ∧ fs.lookup ("learner" : Str) = some (.ref l)
theorem HoldsL.ex {H H' : Hp} {p l : Addr} (h : HoldsL K H p l) (e : Ex H H') : HoldsL K H' p l := by
  obtain ⟨C, dx, fs, h1, h2⟩ := h
  exact ⟨C, dx, fs, e _ _ h1, h2⟩
theorem pck_holds {mg : Str → Option Value} (T : Txt K mg) {H : Hp} {p l b : Addr} {B : Bk} {s : LS} {av : List Addr} (h : PckAt mg H p l b B s av) : HoldsL K H p l := by
  obtain ⟨dx, h1, _⟩ := h
  exact ⟨_, dx, _, h1, T.cl_Packer, T.na_Packer_learner, pf_learner _ _⟩
theorem unp_holds {mg : Str → Option Value} (T : Txt K mg) {H : Hp} {u l b : Addr} {B : Bk} {s : LS} {n : Nat} {w : List Nat} {av : List Addr} (h : UnpAt mg H u l b B s n w av) : HoldsL K H u l := by
  obtain ⟨dx, h1, _⟩ := h
  exact ⟨_, dx, _, h1, T.cl_Unpacker, T.na_Unpacker_learner, uf_learner _ _ _ _⟩
def sp_stands (mg : Str → Option Value) (K : PySem.W.Frag) : Sp := fun vs H Q _ => ∃ (p l b : Addr) (s : LS), vs = [.ref p] ∧ HoldsL K H p l ∧ LrnV mg H l b s [] ∧ ∀ t H', H t = none → Ex H H' → StandAt H' t s → Q (.ref t) H'
theorem ep_stands {mg : Str → Option Value} {σ : L2.St} {H : Hp} {te : TE} {p l b : Addr} {s : LS} {E : XK} (h : Ev te σ H (.ref p)) (hl : HoldsL K H p l) (hv : LrnV mg H l b s []) : EvD K (tCall (sp_stands mg K) [] E (tCons te tNil)) σ H (standD s) := fun H1 e1 Q q =>
  (ea_cons h ea_nil) H1 e1 _ fun H2 e2 => by
    rw [List.append_nil]
    exact ⟨p, l, b, s, rfl, hl.ex (e1.trans e2), hv.ex (e1.trans e2), fun t H3 _ e3 h3 => q _ H3 (e2.trans e3) h3.is⟩
theorem ok_stands {f : Addr} {fd : FuncData} (T : Txt K mg) (F : Fun K "_law_stands" "_law_stands" s_stands f fd) : FnOk P w K mg base CX0 1 f fd ["_law_found"] (sp_stands mg K) := by
  refine F.ok sc_stands (fun vs H Q E h => by obtain ⟨p, l, b, s, rfl, _⟩ := h; rfl) (fun cdv A outer s0 H vs Q E hr h => ?_)
  obtain ⟨p, l, b, s, rfl, ⟨C, dx, fs, hp, hc, hn, hf⟩, hv, q⟩ := h
  refine ⟨_, (pss_one (ps_ret (pe_tup (pa_cons (pe_callTy call_list_of (by rfl) T.b_list (by decide +kernel) (pa_cons (pe_fld (pe_fld (pv 0) rfl) rfl) pa_nil)) (pa_cons (pe_callTy call_list_of (by rfl) T.b_list (by decide +kernel) (pa_cons (pe_fld (pe_fld (pv 0) rfl) rfl) pa_nil)) (pa_cons (pe_fld (pe_fld (pv 0) rfl) rfl) pa_nil)))))), ?_⟩
  obtain ⟨dxl, sh, wd, il, h3, h4, _⟩ := id hv
  refine s_retQ (er_tup (er_consL (el_listof (ev_fld (ev_fld (ev_var rfl) hp hc hn hf) il T.cl_Learner T.na_Learner_shares (lf_shares _ _ _ _)) (sq_of h3)) fun c1 H1 n1 e1 g1 => ?_))
  refine er_consL (el_listof (ev_fld (ev_fld (ev_var rfl) (e1 _ _ hp) hc hn hf) (e1 _ _ il) T.cl_Learner T.na_Learner_words (lf_words _ _ _ _)) (sq_of (e1 _ _ h4))) fun c2 H2 n2 e2 g2 => ?_
  have e12 := e1.trans e2
  refine er_consV (ev_fld (ev_fld (ev_var rfl) (e12 _ _ hp) hc hn hf) (e12 _ _ il) T.cl_Learner T.na_Learner_waits (lf_waits _ _ _ _)) fun H3 e3 => ?_
  refine And.intro (show 3 ≤ sizeLine from sz_of (by decide)) fun t ht => ?_
  have e4 := Ex.new (o := .tup [.ref c1, .ref c2, .str (tx s.ws)]) ht
  exact q t _ (fresh_back (e12.trans e3) ht) ((e12.trans e3).trans e4) ⟨c1, c2, upd_same, e4 _ _ (e3 _ _ (e2 _ _ g1)), e4 _ _ (e3 _ _ g2)⟩
def sp_goes (TL : List (Addr × Str)) (mg : Str → Option Value) : Sp := fun vs H Q _ => ∃ (b : Addr) (B : Bk) (ts : List Nat) (odd : Nat) (at_ : Int), vs = [.ref b, .str (tx ts), .str (tx (packF B (LS.start B) ts)), .str (tx [odd]), .int at_] ∧ BookAt mg H b B ∧ BookOk B ∧ LamX.Tabs TL H ∧ (∀ c ∈ ts, c ∈ B.ss) ∧ ts.length ≤ 20 ∧ odd ∉ B.ss ∧
  ∀ H', LamX.ExtN H H' → LamX.Tabs TL H' → Q (.bl true) H'
theorem eg_told {mg : Str → Option Value} {TL : List (Addr × Str)} {σ : L2.St} {H : Hp} {t : XK → TE} {D' : Str} {G : Hp → Prop} (hT : LamX.Tabs TL H) (hD : D' ∈ fiveE) (k : ∀ H1, LamX.ExtN H H1 → LamX.Tabs TL H1 → ∀ (E : XK) (Q : VK), (∀ H', G H' → E (.ref (cadr mg D')) none H') → t E σ H1 Q) :
    EvG (tCalLam TL (spA_told mg) t) σ H (.str (toldW D')) (fun H2 => ∃ H', G H' ∧ Ex H' H2) := fun Q q =>
  And.intro hT fun H1 n1 T1 => k H1 n1 T1 _ _ fun H' g => ⟨D', hD, rfl, rfl, fun H'' e => q H'' ⟨H', g, e⟩⟩
theorem PckAt.exN {mg : Str → Option Value} {H H' : Hp} {p l b : Addr} {B : Bk} {s : LS} {av : List Addr} (h : PckAt mg H p l b B s av) (e : LamX.ExtN H H') : PckAt mg H' p l b B s av := by
  obtain ⟨dx, h1, h0, h2⟩ := h
  exact ⟨dx, e _ _ h1 (fun _ z => nomatch z), h0.exN e, h2⟩
theorem UnpAt.exN {mg : Str → Option Value} {H H' : Hp} {u l b : Addr} {B : Bk} {s : LS} {n : Nat} {w : List Nat} {av : List Addr} (h : UnpAt mg H u l b B s n w av) (e : LamX.ExtN H H') : UnpAt mg H' u l b B s n w av := by
  obtain ⟨dx, h1, h0, h2⟩ := h
  exact ⟨dx, e _ _ h1 (fun _ z => nomatch z), h0.exN e, h2⟩
theorem spv_putIn {H : Hp} {l m : List Nat} {at_ : Int} (hl : l.length ≤ 20000) (hm : m.length ≤ 100) : SpV sp_putIn [.str (tx l), .int at_, .str (tx m)] H (.str (tx (putIn l at_ m))) := spv fun H1 _ Q E q => ⟨l, at_, m, rfl, hl, hm, q⟩
theorem pf_put (l : Addr) (ss : List Nat) : (pf l ss).lookup ("put" : Str) = none := by unfold pf; (repeat (first | exact lk_eq | exact lk_nil | (refine (lk_ne (by decide +kernel)).trans ?_)))
theorem uf_putN (l : Addr) (n : Nat) (ss w : List Nat) : (uf l n ss w).lookup ("put" : Str) = none := by unfold uf; (repeat (first | exact lk_eq | exact lk_nil | (refine (lk_ne (by decide +kernel)).trans ?_)))
theorem UnpAt.lrn {mg : Str → Option Value} {H : Hp} {u l b : Addr} {B : Bk} {s : LS} {n : Nat} {w : List Nat} {av : List Addr} (h : UnpAt mg H u l b B s n w av) : LrnV mg H l b s av := by
  obtain ⟨_, _, h, _⟩ := h
  exact h
theorem UnpAt.book {mg : Str → Option Value} {H H' : Hp} {u l b : Addr} {B : Bk} {s : LS} {n : Nat} {w : List Nat} {av : List Addr} (h : UnpAt mg H' u l b B s n w av) (hb : BookAt mg H b B) (x : ExS [l, u] H H') : BookAt mg H' b B := by
  obtain ⟨dx, hb⟩ := hb
  obtain ⟨_, _, _, _, n1, n2⟩ := h
  exact ⟨dx, x _ _ (by simp [n1, n2]) hb⟩
theorem bits_bad {bs : List Nat} {c : Nat} (hc : c ∈ bs) (h : ¬ (c = 48 ∨ c = 49)) : BitsB bs = false := by
  cases h1 : BitsB bs with
  | false => rfl
  | true => exact absurd (of_decide_eq_true (List.all_eq_true.mp h1 c hc)) h
def wrs : List Nat := [50, 10, 9, 32]
theorem wrs_no : ∀ i : Fin 4, ¬ (wrs.getD i 0 = 48 ∨ wrs.getD i 0 = 49) := by decide
theorem wrs_at {i : Int} (h0 : 0 ≤ i) (h1 : i < 4) : atI ([.str "2", .str "\n", .str "\t", .str " "] : List V) i = some (.str (tx [wrs.getD i.toNat 0])) := by
  obtain ⟨k, rfl⟩ : ∃ k : Nat, i = (k : Int) := ⟨i.toNat, by omega⟩
  refine atI_nat ?_
  rw [Int.toNat_natCast]
  match k, h1 with
  | 0, _ => exact congrArg (fun s => some (V.str s)) (by decide +kernel)
  | 1, _ => exact congrArg (fun s => some (V.str s)) (by decide +kernel)
  | 2, _ => exact congrArg (fun s => some (V.str s)) (by decide +kernel)
  | 3, _ => exact congrArg (fun s => some (V.str s)) (by decide +kernel)
  | k + 4, h => omega
theorem tdS : V.str (toldW "BadSign") = V.str "signTrue" := congrArg V.str (by decide +kernel)
theorem tdB : V.str (toldW "BadBit") = V.str "bitTrue" := congrArg V.str (by decide +kernel)
theorem tdL : V.str (toldW "Loose") = V.str "looseTrue" := congrArg V.str (by decide +kernel)
theorem ok_goes_on {f : Addr} {fd : FuncData} {lc lP : Addr} {TL : List (Addr × Str)} (T : Txt K mg) (F : Fun K "_law_goes_on" "_law_goes_on" s_goes_on f fd) (hcd : fd.code = .ref lc) (TB : LamX.TabB base mg lc lP) (hm : (lP, lq "_law_goes_on") ∈ TL) (hu : ∀ p ∈ TL, p.1 = lP → p.2 = lq "_law_goes_on") (N_Packer : Mkr P w K mg base "Packer" ["self", "book"] 7 (sp_Pinit mg)) (M_Packer_put : Met P w K mg base "Packer" "put" ["self", "part"] 7 (sp_Pput mg)) (C__law_stands : Cal P w K mg base "_law_stands" ["_law_found"] 1 (sp_stands mg K)) (N_Unpacker : MkrX P w K mg base "Unpacker" ["self", "book", "many"] 7 (sp_xUinit mg)) (M_Unpacker_put : MetX P w K mg base "Unpacker" "put" ["self", "bits"] 9 (sp_xput mg)) (C__law_told : CalA P w K mg base "_law_told" "_law_call" 13 12 (spA_told mg)) (C__law_put_in : Cal P w K mg base "_law_put_in" ["_law_row", "_law_at", "_law_sign"] 1 sp_putIn) (M_Packer_put_Vx : MetX P w K mg base "Packer" "put" ["self", "part"] 2 (sp_xPput mg)) (C_report_Vx : CalX P w K mg base "report" ["book", "text"] 9 (sp_xwritten mg)) (C_written_Vx : CalX P w K mg base "written" ["book", "text"] 10 (sp_xwritten mg)) : FnOk P w K mg base CX0 14 f fd ["_law_book", "_law_text", "_law_bits", "_law_odd", "_law_at"] (sp_goes TL mg) := by
  refine okC F sc_goes_on hcd (fun vs H Q E h => by obtain ⟨b, B, ts, odd, at_, rfl, _⟩ := h; rfl) (fun A outer s0 H vs Q E hr h => ?_)
  obtain ⟨b, B, ts, odd, at_, rfl, hb, hB, hT, hmem, hn, hodd, q⟩ := h
  refine ⟨_, (pss_cons (ps_set (i := 5) sc_goes_on.nd rfl (Or.inr rfl) (pe_mkr N_Packer hr (by decide) (by rfl) (pa_cons (pv 0) pa_nil)))
      (pss_cons (ps_set (i := 6) sc_goes_on.nd rfl (Or.inr rfl) (pe_op op_fdiv (pe_callB call_len_str (by rfl) T.b_len PySem.boot_len (pa_cons (pv 1) pa_nil)) pe_int))
      (pss_cons (ps_set (i := 7) sc_goes_on.nd rfl (Or.inl rfl) (pe_met M_Packer_put hr (by decide) (pv 5) (pa_cons (pe_slice sl_str (pv 1) po_none (po_some (pv 6))) pa_nil)))
      (pss_cons (ps_set (i := 8) sc_goes_on.nd rfl (Or.inl rfl) (pe_cal C__law_stands hr (by decide) (by rfl) (pa_cons (pv 5) pa_nil)))
      (pss_cons (ps_if (pt_cmpR op_ne (pe_calLam (m := 11) (dk := false) C__law_told hr (by decide) (by rfl) TB rfl hm hu (lamL_at (N := ["_law_book", "_law_text", "_law_bits", "_law_odd", "_law_at", "_law_packer", "_law_half", "_law_first", "_law_ahead", "_law_reader", "_law_cut", "_law_start", "_law_wrong"]) (sc := defScope s_goes_on) rfl rfl (by decide +kernel)) ⟨fun _ _ _ _ _ _ _ => rfl, nofun⟩ (Or.inl ⟨rfl, rfl⟩) (by decide) (fun A outer s H E f c' hr => (pe_metXm (mg := mg) rfl M_Packer_put_Vx (pass_on (E := E) rfl rfl rfl rfl) hr (by decide) (pv 5) (pa_cons (pe_cal C__law_put_in hr (by decide) (by rfl) (pa_cons (pe_slice sl_str (pv 1) (po_some (pv 6)) po_none) (pa_cons (pv 4) (pa_cons (pv 3) pa_nil)))) pa_nil)))) pe_str (nomark _)) (pss_one (ps_ret pe_bl)) pss_nil)
      (pss_cons (ps_if (pt_cmpR op_ne (pe_calLam (m := 11) (dk := true) C__law_told hr (by decide) (by rfl) TB rfl hm hu (lamL_at (N := ["_law_book", "_law_text", "_law_bits", "_law_odd", "_law_at", "_law_packer", "_law_half", "_law_first", "_law_ahead", "_law_reader", "_law_cut", "_law_start", "_law_wrong"]) (sc := defScope s_goes_on) rfl rfl (by decide +kernel)) ⟨nofun, fun _ => ⟨"_law_one", rfl, fun _ _ _ _ _ _ _ => ⟨_, rfl, fun _ => rfl⟩⟩⟩ (Or.inr ⟨rfl, _, _, rfl⟩) (by decide) (fun A outer s H E f c' hr => (pe_calX C_report_Vx (pass_on (E := E) rfl rfl rfl rfl) hr (by decide) (by rfl) (pa_cons (pv 0) (pa_cons (pe_cal C__law_put_in hr (by decide) (by rfl) (pa_cons (pv 1) (pa_cons (pe_op op_fdiv (pv 4) pe_int) (pa_cons (pv 3) pa_nil)))) pa_nil))))) pe_str (nomark _)) (pss_one (ps_ret pe_bl)) pss_nil)
      (pss_cons (ps_if (pt_cmpR op_ne (pe_calLam (m := 11) (dk := true) C__law_told hr (by decide) (by rfl) TB rfl hm hu (lamL_at (N := ["_law_book", "_law_text", "_law_bits", "_law_odd", "_law_at", "_law_packer", "_law_half", "_law_first", "_law_ahead", "_law_reader", "_law_cut", "_law_start", "_law_wrong"]) (sc := defScope s_goes_on) rfl rfl (by decide +kernel)) ⟨nofun, fun _ => ⟨"_law_other", rfl, fun _ _ _ _ _ _ _ => ⟨_, rfl, fun _ => rfl⟩⟩⟩ (Or.inr ⟨rfl, _, _, rfl⟩) (by decide) (fun A outer s H E f c' hr => (pe_calX C_written_Vx (pass_on (E := E) rfl rfl rfl rfl) hr (by decide) (by rfl) (pa_cons (pv 0) (pa_cons (pe_cal C__law_put_in hr (by decide) (by rfl) (pa_cons (pv 1) (pa_cons (pe_op op_fdiv (pv 4) pe_int) (pa_cons (pv 3) pa_nil)))) pa_nil))))) pe_str (nomark _)) (pss_one (ps_ret pe_bl)) pss_nil)
      (pss_cons (ps_if (PW.pt (pw_or (pt_cmpR (op_neX hr.units) (pe_cal C__law_stands hr (by decide) (by rfl) (pa_cons (pv 5) pa_nil)) (pv 8) (nomark _)) (pw_or1 (pt_cmpR op_ne (pe_op op_add_str (pv 7) (pe_met M_Packer_put hr (by decide) (pv 5) (pa_cons (pe_slice sl_str (pv 1) (po_some (pv 6)) po_none) pa_nil))) (pv 2) (nomark _))))) (pss_one (ps_ret pe_bl)) pss_nil)
      (pss_cons (ps_set (i := 9) sc_goes_on.nd rfl (Or.inr rfl) (pe_mkrX N_Unpacker passL hr (by decide) (by rfl) (pa_cons (pv 0) (pa_cons (pe_callB call_len_str (by rfl) T.b_len PySem.boot_len (pa_cons (pv 1) pa_nil)) pa_nil))))
      (pss_cons (ps_set (i := 10) sc_goes_on.nd rfl (Or.inr rfl) (pe_op op_fdiv (pe_callB call_len_str (by rfl) T.b_len PySem.boot_len (pa_cons (pv 2) pa_nil)) pe_int))
      (pss_cons (ps_set (i := 11) sc_goes_on.nd rfl (Or.inl rfl) (pe_metX M_Unpacker_put passL hr (by decide) (pv 9) (pa_cons (pe_slice sl_str (pv 2) po_none (po_some (pv 10))) pa_nil)))
      (pss_cons (ps_set (i := 8) sc_goes_on.nd rfl (Or.inl rfl) (pe_cal C__law_stands hr (by decide) (by rfl) (pa_cons (pv 9) pa_nil)))
      (pss_cons (ps_set (i := 12) sc_goes_on.nd rfl (Or.inr rfl) (pe_ix ix_list (pe_lst (pa_cons pe_str (pa_cons pe_str (pa_cons pe_str (pa_cons pe_str pa_nil))))) (pe_op op_mod (pe_op op_fdiv (pv 4) pe_int) pe_int) (fun _ _ => rfl)))
      (pss_cons (ps_if (pt_cmpR op_ne (pe_calLam (m := 11) (dk := true) C__law_told hr (by decide) (by rfl) TB rfl hm hu (lamL_at (N := ["_law_book", "_law_text", "_law_bits", "_law_odd", "_law_at", "_law_packer", "_law_half", "_law_first", "_law_ahead", "_law_reader", "_law_cut", "_law_start", "_law_wrong"]) (sc := defScope s_goes_on) rfl rfl (by decide +kernel)) ⟨nofun, fun _ => ⟨"_law_two", rfl, fun _ _ _ _ _ _ _ => ⟨_, rfl, fun _ => rfl⟩⟩⟩ (Or.inr ⟨rfl, _, _, rfl⟩) (by decide) (fun A outer s H E f c' hr => (pe_metXm (mg := mg) rfl M_Unpacker_put (pass_on (E := E) rfl rfl rfl rfl) hr (by decide) (pv 9) (pa_cons (pe_cal C__law_put_in hr (by decide) (by rfl) (pa_cons (pe_slice sl_str (pv 2) (po_some (pv 10)) po_none) (pa_cons (pv 4) (pa_cons (pv 12) pa_nil)))) pa_nil)))) pe_str (nomark _)) (pss_one (ps_ret pe_bl)) pss_nil)
      (pss_cons (ps_if (PW.pt (pw_or (pt_cmpR (op_neX hr.units) (pe_cal C__law_stands hr (by decide) (by rfl) (pa_cons (pv 9) pa_nil)) (pv 8) (nomark _)) (pw_or1 (pt_cmpR op_ne (pe_fld (pv 9) rfl) (pe_op op_sub (pe_callB call_len_str (by rfl) T.b_len PySem.boot_len (pa_cons (pv 1) pa_nil)) (pe_callB call_len_str (by rfl) T.b_len PySem.boot_len (pa_cons (pv 11) pa_nil))) (nomark _))))) (pss_one (ps_ret pe_bl)) pss_nil)
      (pss_cons (ps_if (pt_cmpR op_ne (pe_calLam (m := 11) (dk := true) C__law_told hr (by decide) (by rfl) TB rfl hm hu (lamL_at (N := ["_law_book", "_law_text", "_law_bits", "_law_odd", "_law_at", "_law_packer", "_law_half", "_law_first", "_law_ahead", "_law_reader", "_law_cut", "_law_start", "_law_wrong"]) (sc := defScope s_goes_on) rfl rfl (by decide +kernel)) ⟨nofun, fun _ => ⟨"_law_more", rfl, fun _ _ _ _ _ _ _ => ⟨_, rfl, fun _ => rfl⟩⟩⟩ (Or.inr ⟨rfl, _, _, rfl⟩) (by decide) (fun A outer s H E f c' hr => (pe_metXm (mg := mg) rfl M_Unpacker_put (pass_on (E := E) rfl rfl rfl rfl) hr (by decide) (pv 9) (pa_cons (pe_op op_add_str (pe_slice sl_str (pv 2) (po_some (pv 10)) po_none) pe_str) pa_nil)))) pe_str (nomark _)) (pss_one (ps_ret pe_bl)) pss_nil)
      (pss_cons (ps_if (PW.pt (pw_or (pt_cmpR (op_neX hr.units) (pe_cal C__law_stands hr (by decide) (by rfl) (pa_cons (pv 9) pa_nil)) (pv 8) (nomark _)) (pw_or1 (pt_cmpR op_ne (pe_fld (pv 9) rfl) (pe_op op_sub (pe_callB call_len_str (by rfl) T.b_len PySem.boot_len (pa_cons (pv 1) pa_nil)) (pe_callB call_len_str (by rfl) T.b_len PySem.boot_len (pa_cons (pv 11) pa_nil))) (nomark _))))) (pss_one (ps_ret pe_bl)) pss_nil)
      (pss_cons (ps_if (PW.pt (pw_or (pt_cmpR op_ne (pe_op op_add_str (pv 11) (pe_metX M_Unpacker_put passL hr (by decide) (pv 9) (pa_cons (pe_slice sl_str (pv 2) (po_some (pv 10)) po_none) pa_nil))) (pv 1) (nomark _)) (pw_or1 (pt_cmpR op_ne (pe_fld (pv 9) rfl) pe_int (nomark _))))) (pss_one (ps_ret pe_bl)) pss_nil)
      (pss_cons (ps_if (pt_cmpR op_ne (pe_calLam (m := 11) (dk := true) C__law_told hr (by decide) (by rfl) TB rfl hm hu (lamL_at (N := ["_law_book", "_law_text", "_law_bits", "_law_odd", "_law_at", "_law_packer", "_law_half", "_law_first", "_law_ahead", "_law_reader", "_law_cut", "_law_start", "_law_wrong"]) (sc := defScope s_goes_on) rfl rfl (by decide +kernel)) ⟨nofun, fun _ => ⟨"_law_three", rfl, fun _ _ _ _ _ _ _ => ⟨_, rfl, fun _ => rfl⟩⟩⟩ (Or.inr ⟨rfl, _, _, rfl⟩) (by decide) (fun A outer s H E f c' hr => (pe_metXm (mg := mg) rfl M_Unpacker_put (pass_on (E := E) rfl rfl rfl rfl) hr (by decide) (pv 9) (pa_cons pe_str pa_nil)))) pe_str (nomark _)) (pss_one (ps_ret pe_bl)) pss_nil)
      (pss_cons (ps_if (pt_cmpR op_ne (pe_calLam (m := 11) (dk := true) C__law_told hr (by decide) (by rfl) TB rfl hm hu (lamL_at (N := ["_law_book", "_law_text", "_law_bits", "_law_odd", "_law_at", "_law_packer", "_law_half", "_law_first", "_law_ahead", "_law_reader", "_law_cut", "_law_start", "_law_wrong"]) (sc := defScope s_goes_on) rfl rfl (by decide +kernel)) ⟨nofun, fun _ => ⟨"_law_four", rfl, fun _ _ _ _ _ _ _ => ⟨_, rfl, fun _ => rfl⟩⟩⟩ (Or.inr ⟨rfl, _, _, rfl⟩) (by decide) (fun A outer s H E f c' hr => (pe_metXm (mg := mg) rfl M_Unpacker_put (pass_on (E := E) rfl rfl rfl rfl) hr (by decide) (pv 9) (pa_cons (pe_cal C__law_put_in hr (by decide) (by rfl) (pa_cons pe_str (pa_cons (pv 4) (pa_cons pe_str pa_nil)))) pa_nil)))) pe_str (nomark _)) (pss_one (ps_ret pe_bl)) pss_nil)
      (pss_one (ps_ret (pe_and (pe_cmpR op_eq (pe_metX M_Unpacker_put passL hr (by decide) (pv 9) (pa_cons pe_str pa_nil)) pe_str (nomark _)) (pe_one (pe_cmpR op_eq (pe_fld (pv 9) rfl) pe_int (nomark _)))))))))))))))))))))))))), ?_⟩
  have hO := LS.start_ok hB
  have plen : ∀ (ts : List Nat) (s : LS), s.Ok B → (∀ c ∈ ts, c ∈ B.ss) → ts.length ≤ 20 → (packF B s ts).length ≤ 800 := fun us s h1 h2 h3 => by have := (packF_ok hB us s h1 h2).2; omega
  have tsl : (tx ts).length ≤ sizeLine := by rw [tx_len]; exact sz_of (by omega)
  -- the packer
  refine q_asgQ (q_packer (ea_cons (ev_var rfl) ea_nil) hb hB Taken.nil fun p l H1 hp hl e1 P1 => ?_)
  refine q_asg (v := .int ((ts.length / 2 : Nat) : Int)) (ev_is (ev_op (ev_is (ev_lenZ (ev_var rfl) tsl) (by rw [tx_len])) ev_c (rv_fdiv (by decide))) (congrArg V.int (by omega))) fun H2 e2 => ?_
  have hk : ts.length / 2 ≤ ts.length := by omega
  generalize ts.length / 2 = half at hk
  have P2 := P1.ex e2
  have b2 := hb.ex (e1.trans e2)
  obtain ⟨dx2, p2, _⟩ := id P2
  have m1 : ∀ c ∈ ts.take half, c ∈ B.ss := fun c hc => hmem c (List.mem_of_mem_take hc)
  have m2 : ∀ c ∈ ts.drop half, c ∈ B.ss := fun c hc => hmem c (List.mem_of_mem_drop hc)
  refine q_asgQ (er_met (ev_var rfl) p2 (pf_put _ _) (ea_cons (ev_toS (n := half) (ev_var rfl) (ev_var rfl) (by omega)) ea_nil) fun H3 e3 => ⟨p, l, b, B, _, ts.take half, [], rfl, P2.ex e3, Taken.nil, b2.ex e3, hB, hO, m1, by rw [List.length_take]; omega, fun H4 x4 P4 => ?_⟩)
  have i3 : InsAt H3 [l] := (P2.ex e3).lrn.insAt
  have hO1 := LS.steps_ok hB (ts.take half) _ hO
  have b4 : BookAt mg H4 b B := by
    obtain ⟨dxb, hb'⟩ := b2.ex e3
    obtain ⟨_, _, _, _, n1, _⟩ := id P4
    exact ⟨dxb, x4 _ _ (by simpa using n1) hb'⟩
  have N4 : LamX.ExtN H H4 := extN_exS (LamX.ExtN.of ((e1.trans e2).trans e3)) x4 (by simpa using hl)
  have T4 : LamX.Tabs TL H4 := tabs_exS (hT.ext ((e1.trans e2).trans e3)) x4 i3
  refine q_asgQ (er_cal (ea_cons (ev_var rfl) ea_nil) fun H5 e5 => ⟨p, l, b, _, rfl, pck_holds T (P4.ex e5), (P4.ex e5).lrn, fun tt H6 _ e6 S6 => ?_⟩)
  have e46 := e5.trans e6
  have P6 := P4.ex e46
  have b6 := b4.ex e46
  have T6 := T4.ext e46
  have N6 := N4.trans (LamX.ExtN.of e46)
  have pbits := plen ts _ hO hmem hn
  clear P4 b4 T4 N4 x4 i3 P2 b2 p2 P1
  -- three refusals of a sign
  refine q_whenG (w := .str "signTrue") (eg_told (D' := "BadSign") (G := fun H' => ∃ H1, LamX.ExtN H6 H1 ∧ LamX.Tabs TL H1 ∧ Ex H1 H') T6 (by decide) fun H7 n7 T7 E Q hE => ?_) (fun _ _ => ev_c) rfl tdS fun H8 H9 g8 e9 => ?_
  · have P7 := P6.exN n7
    obtain ⟨dx, p7, _⟩ := id P7
    exact er_met (ev_var rfl) p7 (pf_put _ _) (ea_cons (ev_cal (ea_cons (ev_fromS (i := half) (ev_var rfl) (ev_var rfl) (by omega)) (ea_cons (ev_var rfl) (ea_cons (ev_var rfl) ea_nil))) (spv_putIn (by rw [List.length_drop]; omega) (by show 1 ≤ 100; decide))) ea_nil) fun H8 e8 => ⟨p, l, b, B, _, _, [], rfl, P7.ex e8, ⟨odd, putIn_mem (by simp), hodd⟩, fun H9 e9 => hE H9 ⟨H7, n7, T7, e8.trans e9⟩⟩
  obtain ⟨H', ⟨H7, n7, T7, e7⟩, e8⟩ := g8
  have n9 : LamX.ExtN H6 H9 := n7.trans (LamX.ExtN.of ((e7.trans e8).trans e9))
  have P9 := P6.exN n9
  have b9 := b6.exN n9
  have S9 := S6.exN n9
  have T9 := T7.ext ((e7.trans e8).trans e9)
  have N9 := N6.trans n9
  clear n7 T7 e7 e8 e9 n9 P6 b6 S6 T6 N6
  refine q_whenG (w := .str "signTrue") (eg_told (D' := "BadSign") (G := fun H' => ∃ H1, LamX.ExtN H9 H1 ∧ LamX.Tabs TL H1 ∧ Ex H1 H') T9 (by decide) fun H10 n10 T10 E Q hE => ?_) (fun _ _ => ev_c) rfl tdS fun H11 H12 g11 e12' => ?_
  · exact er_cal (ea_cons (ev_var rfl) (ea_cons (ev_cal (ea_cons (ev_var rfl) (ea_cons (ev_op (ev_var rfl) ev_c (rv_fdiv (by decide))) (ea_cons (ev_var rfl) ea_nil))) (spv_putIn (by omega) (by show 1 ≤ 100; decide))) ea_nil)) fun H11 e11 => ⟨b, B, _, rfl, (b9.exN n10).ex e11, hB, by rw [putIn_len]; show ts.length + 1 ≤ 2000; omega, ⟨odd, putIn_mem (by simp), hodd⟩, fun H12 e12 => hE H12 ⟨H10, n10, T10, e11.trans e12⟩⟩
  obtain ⟨H', ⟨H10, n10, T10, e10⟩, e11⟩ := g11
  have n12 : LamX.ExtN H9 H12 := n10.trans (LamX.ExtN.of ((e10.trans e11).trans e12'))
  have P12 := P9.exN n12
  have b12 := b9.exN n12
  have S12 := S9.exN n12
  have T12 := T10.ext ((e10.trans e11).trans e12')
  have N12 := N9.trans n12
  clear n10 T10 e10 e11 e12' n12 P9 b9 S9 T9 N9
  refine q_whenG (w := .str "signTrue") (eg_told (D' := "BadSign") (G := fun H' => ∃ H1, LamX.ExtN H12 H1 ∧ LamX.Tabs TL H1 ∧ Ex H1 H') T12 (by decide) fun H13 n13 T13 E Q hE => ?_) (fun _ _ => ev_c) rfl tdS fun H14 H15 g14 e15 => ?_
  · exact er_cal (ea_cons (ev_var rfl) (ea_cons (ev_cal (ea_cons (ev_var rfl) (ea_cons (ev_op (ev_var rfl) ev_c (rv_fdiv (by decide))) (ea_cons (ev_var rfl) ea_nil))) (spv_putIn (by omega) (by show 1 ≤ 100; decide))) ea_nil)) fun H14 e14 => ⟨b, B, _, rfl, (b12.exN n13).ex e14, hB, by rw [putIn_len]; show ts.length + 1 ≤ 2000; omega, ⟨odd, putIn_mem (by simp), hodd⟩, fun H15 e15 => hE H15 ⟨H13, n13, T13, e14.trans e15⟩⟩
  obtain ⟨H', ⟨H13, n13, T13, e13⟩, e14⟩ := g14
  have n15 : LamX.ExtN H12 H15 := n13.trans (LamX.ExtN.of ((e13.trans e14).trans e15))
  have P15 := P12.exN n15
  have b15 := b12.exN n15
  have S15 := S12.exN n15
  have T15 := T13.ext ((e13.trans e14).trans e15)
  have N15 := N12.trans n15
  clear n13 T13 e13 e14 e15 n15 P12 b12 S12 T12 N12
  -- the packer stands, and goes on
  refine q_orE (et_is (et_test (ed_ne0 (ep_stands (ev_var rfl) (pck_holds T P15) P15.lrn) (ed_ev (ev_var rfl) S15.is) (by decide))) rfl) fun H16 e16 => ?_
  have P16 := P15.ex e16
  have b16 := b15.ex e16
  have T16 := T15.ext e16
  have N16 := N15.trans (LamX.ExtN.of e16)
  refine q_whenG (v := .str (tx (packF B (LS.start B) ts))) (w := .str (tx (packF B (LS.start B) ts))) (G := fun H' => BookAt mg H' b B ∧ LamX.Tabs TL H' ∧ LamX.ExtN H H') ?_ (fun _ _ => ev_var rfl) rfl rfl fun H17 H18 g17 e18 => ?_
  · have hpk : packF B (LS.start B) (ts.take half) ++ packF B ((LS.start B).steps B (ts.take half)) (ts.drop half) = packF B (LS.start B) ts := by rw [← packF_app, List.take_append_drop]
    rw [← hpk]
    refine eg_addT (ev_var rfl) (fun H17 e17 Q q2 => ?_) ?_
    · have P17 := P16.ex e17
      obtain ⟨dx, p17, _⟩ := id P17
      refine er_met (ev_var rfl) p17 (pf_put _ _) (ea_cons (ev_fromS (i := half) (ev_var rfl) (ev_var rfl) (by omega)) ea_nil) fun H18 e18 => ⟨p, l, b, B, _, ts.drop half, [], rfl, P17.ex e18, Taken.nil, (b16.ex e17).ex e18, hB, hO1, m2, by rw [List.length_drop]; omega, fun H19 x19 P19 => q2 H19 ⟨?_, tabs_exS (T16.ext (e17.trans e18)) x19 (P17.ex e18).lrn.insAt, extN_exS (N16.trans (LamX.ExtN.of (e17.trans e18))) x19 (by simpa using hl)⟩⟩
      obtain ⟨dxb, hb'⟩ := (b16.ex e17).ex e18
      obtain ⟨_, _, _, _, n1, _⟩ := id P19
      exact ⟨dxb, x19 _ _ (by simpa using n1) hb'⟩
    · have a1 := plen (ts.take half) _ hO m1 (by rw [List.length_take]; omega)
      have a2 := plen (ts.drop half) _ hO1 m2 (by rw [List.length_drop]; omega)
      omega
  obtain ⟨b17, T17, N17⟩ := g17
  have b18 := b17.ex e18
  have T18 := T17.ext e18
  have N18 := N17.trans (LamX.ExtN.of e18)
  clear b17 T17 N17 e18 P16 b16 T16 N16 P15 b15 T15 N15 S15
  -- the reader
  obtain ⟨pb1, _⟩ := packF_ok hB ts _ hO hmem
  refine q_asgQ (qx_unpacker (ea_cons (ev_var rfl) (ea_cons (ev_is (ev_lenZ (ev_var rfl) tsl) (by rw [tx_len])) ea_nil)) b18 hB Taken.nil (.inr ⟨ts.length, rfl, by omega, fun u l2 H19 hu hl2 e19 U19 => ?_⟩))
  have b19 := b18.ex e19
  have T19 := T18.ext e19
  have N19 := N18.trans (LamX.ExtN.of e19)
  have hfr : ∀ a ∈ [l2, u], H18 a = none := fun a ha => by
    rcases List.mem_cons.mp ha with e | ha
    · rw [e]; exact hl2
    · rw [List.mem_singleton.mp ha]; exact hu
  refine q_asg (v := .int (((packF B (LS.start B) ts).length / 2 : Nat) : Int)) (ev_is (ev_op (ev_is (ev_lenZ (ev_var rfl) (by rw [tx_len]; exact sz_of (by omega))) (by rw [tx_len])) ev_c (rv_fdiv (by decide))) (congrArg V.int (by omega))) fun H20 e20 => ?_
  generalize (packF B (LS.start B) ts).length / 2 = cut
  obtain ⟨k, wy, hk2, hF, hpk, hwo, _⟩ := Fol.part hB ts (LS.start B) [] ((packF B (LS.start B) ts).take cut) ((packF B (LS.start B) ts).drop cut) hO hmem (by
    cases ts with
    | nil => exact rfl
    | cons c r => exact ⟨_, rfl⟩) (by rw [List.nil_append, List.take_append_drop])
  have U20 := U19.ex e20
  obtain ⟨dx20, u20, _⟩ := id U20
  have bt : BitsB ((packF B (LS.start B) ts).take cut) = true := List.all_eq_true.mpr fun c hc => decide_eq_true (pb1 c (List.mem_of_mem_take hc))
  refine q_asgQ (er_met (ev_var rfl) u20 (uf_putN _ _ _ _) (ea_cons (ev_toS (n := cut) (ev_var rfl) (ev_var rfl) (by omega)) ea_nil) fun H21 e21 => ⟨u, l2, b, B, _, ts.length, [], (packF B (LS.start B) ts).take cut, [], rfl, U20.ex e21, Taken.nil, (b19.ex e20).ex e21, hB, hO, by omega, by rw [List.length_take]; omega, by rw [List.length_take]; show 0 + _ ≤ _; omega, .inr ⟨bt, _, _, _, _, _, hF, fun hr => absurd rfl hr, fun _ H22 x22 U22 => ?_⟩⟩)
  have U21 := U20.ex e21
  have b22 := U22.book ((b19.ex e20).ex e21) x22
  have T22 : LamX.Tabs TL H22 := tabs_exS (T19.ext (e20.trans e21)) x22 U21.insAt
  have M22 : LamX.ExtN H18 H22 := extN_exS (LamX.ExtN.of ((e19.trans e20).trans e21)) x22 hfr
  have hm1 : ∀ c ∈ ts.take k, c ∈ B.ss := fun c hc => hmem c (List.mem_of_mem_take hc)
  have hm2 : ∀ c ∈ ts.drop k, c ∈ B.ss := fun c hc => hmem c (List.mem_of_mem_drop hc)
  have hOk := LS.steps_ok hB (ts.take k) _ hO
  have hwl : wy.length ≤ 800 := by
    have := congrArg List.length hpk
    rw [List.length_append, List.nil_append, List.length_take] at this
    omega
  have hrest : wy ++ (packF B (LS.start B) ts).drop cut = packF B ((LS.start B).steps B (ts.take k)) (ts.drop k) := by
    have h1 : packF B (LS.start B) (ts.take k) ++ packF B ((LS.start B).steps B (ts.take k)) (ts.drop k) = packF B (LS.start B) ts := by rw [← packF_app, List.take_append_drop]
    have h2 := List.take_append_drop cut (packF B (LS.start B) ts)
    rw [List.nil_append] at hpk
    rw [← hpk, List.append_assoc] at h2
    exact List.append_cancel_left (h2.trans h1.symm)
  have hFr := fun v => Fol.rest hB hOk hm2 hwo hrest v
  have hld : (ts.drop k).length = ts.length - k := List.length_drop
  rw [hld] at hFr
  have hrb : ∀ c ∈ (packF B (LS.start B) ts).drop cut, c = 48 ∨ c = 49 := fun c hc => pb1 c (List.mem_of_mem_drop hc)
  have hrl : ((packF B (LS.start B) ts).drop cut).length ≤ 800 := by rw [List.length_drop]; omega
  clear U20 u20 U19 b19 T19 e19 e20 e21 x22 U21 bt hF hpk N19
  generalize hs1 : (LS.start B).steps B (ts.take k) = s1 at U22 hOk hFr hwo hrest
  refine q_asgQ (er_cal (ea_cons (ev_var rfl) ea_nil) fun H23 e23 => ⟨u, l2, b, s1, rfl, unp_holds T (U22.ex e23), (U22.ex e23).lrn, fun t2 H24 _ e24 S24 => ?_⟩)
  have w1 := Int.emod_nonneg (at_ / 7) (show (4 : Int) ≠ 0 by decide)
  have w2 := Int.emod_lt_of_pos (at_ / 7) (show (0 : Int) < 4 by decide)
  refine q_asg (ev_ixD (el_lst (ea_cons ev_c (ea_cons ev_c (ea_cons ev_c (ea_cons ev_c ea_nil)))) (by show 4 ≤ 100000; decide)) (fun _ _ => ev_op (ev_op (ev_var rfl) ev_c (rv_fdiv (by decide))) ev_c (rv_mod (by decide))) (wrs_at w1 w2)) fun H25 e25 => ?_
  have hwr := wrs_no ⟨(at_ / 7 % 4).toNat, by omega⟩
  simp only at hwr
  generalize wrs.getD (at_ / 7 % 4).toNat 0 = wr at hwr
  have U25 := (U22.ex (e23.trans e24)).ex e25
  have b25 := (b22.ex (e23.trans e24)).ex e25
  have S25 := S24.ex e25
  have T25 := (T22.ext (e23.trans e24)).ext e25
  have M25 := M22.trans (LamX.ExtN.of ((e23.trans e24).trans e25))
  clear U22 b22 S24 T22 M22 e23 e24 e25
  -- a wrong sign among the bits
  refine q_whenG (w := .str "bitTrue") (eg_told (D' := "BadBit") (G := fun H' => ∃ H1, LamX.ExtN H25 H1 ∧ LamX.Tabs TL H1 ∧ Ex H1 H') T25 (by decide) fun H26 n26 T26 E Q hE => ?_) (fun _ _ => ev_c) rfl tdB fun H27 H28 g27 e28 => ?_
  · have U26 := U25.exN n26
    obtain ⟨dx, u26, _⟩ := id U26
    exact er_met (ev_var rfl) u26 (uf_putN _ _ _ _) (ea_cons (ev_cal (ea_cons (ev_fromS (i := cut) (ev_var rfl) (ev_var rfl) (by omega)) (ea_cons (ev_var rfl) (ea_cons (ev_var rfl) ea_nil))) (spv_putIn (by omega) (by show 1 ≤ 100; decide))) ea_nil) fun H27 e27 => ⟨u, l2, b, B, s1, _, wy, _, [], rfl, U26.ex e27, Taken.nil, (b25.exN n26).ex e27, hB, hOk, by omega, by rw [putIn_len]; show _ + 1 ≤ _; omega, by rw [putIn_len]; show wy.length + (_ + 1) ≤ _; omega, .inl ⟨bits_bad (putIn_mem (List.mem_singleton.mpr rfl)) hwr, fun H28 e28 => hE H28 ⟨H26, n26, T26, e27.trans e28⟩⟩⟩
  obtain ⟨H', ⟨H26, n26, T26, e26⟩, e27⟩ := g27
  have n28 : LamX.ExtN H25 H28 := n26.trans (LamX.ExtN.of ((e26.trans e27).trans e28))
  have U28 := U25.exN n28
  have b28 := b25.exN n28
  have S28 := S25.exN n28
  have T28 := T26.ext ((e26.trans e27).trans e28)
  have M28 := M25.trans n28
  clear n26 T26 e26 e27 e28 n28 U25 b25 S25 T25 M25
  have same : ∀ {H' : Hp}, UnpAt mg H' u l2 b B s1 (ts.length - k) wy [] → StandAt H' t2 s1 → EvT (tOr (tTest (tOp (rEqX K true) (tCall (sp_stands mg K) [] E0 (tCons (tVar 9) tNil)) (tVar 8))) (tTest (tOp rNe (tFld K (tVar 9) "left") (tOp (rI0 fun i j => .int (i - j)) (tCB (fun xs H Q => ∃ z, xs = [.str z] ∧ z.length ≤ sizeLine ∧ Q (.int z.length) H) (tCons (tVar 1) tNil)) (tCB (fun xs H Q => ∃ z, xs = [.str z] ∧ z.length ≤ sizeLine ∧ Q (.int z.length) H) (tCons (tVar 11) tNil))))))
      [some (.ref b), some (.str (tx ts)), some (.str (tx (packF B (LS.start B) ts))), some (.str (tx [odd])), some (.int at_), some (.ref p), some (.int (half : Int)), some (.str (tx (packF B (LS.start B) (ts.take half)))), some (.ref t2), some (.ref u), some (.int (cut : Int)), some (.str (tx (ts.take k))), some (.str (tx [wr]))] H' false := fun hU hS => by
    obtain ⟨dx, hu', _⟩ := id hU
    refine et_is (et_or (a := false) (et_is (et_test (ed_ne0 (ep_stands (ev_var rfl) (unp_holds T hU) hU.lrn) (ed_ev (ev_var rfl) hS.is) (by decide))) rfl) fun _ => et_is (et_test (ev_op (ev_fld (ev_var rfl) hu' T.cl_Unpacker T.na_Unpacker_left (uf_left _ _ _ _)) (ev_op (ev_lenZ (ev_var rfl) tsl) (ev_lenZ (ev_var rfl) (by rw [tx_len]; exact sz_of (by rw [List.length_take]; omega))) rv_I0) (rv_ne rfl))) (b := false) ?_) rfl
    rw [tx_len, tx_len, List.length_take, Nat.min_eq_left hk2, decide_eq_true (congrArg V.int (by omega))]
    rfl
  refine q_when (b := false) (same U28 S28) (fun hx => nomatch hx) (fun _ H29 e29 => ?_)
  have U29 := U28.ex e29
  have b29 := b28.ex e29
  have S29 := S28.ex e29
  have T29 := T28.ext e29
  have M29 := M28.trans (LamX.ExtN.of e29)
  clear U28 b28 S28 T28 M28 e29
  -- one bit more
  have k0s : PySem.Str.ofString "0" = tx [48] := by decide +kernel
  have k1s : PySem.Str.ofString "1" = tx [49] := by decide +kernel
  have k00 : PySem.Str.ofString "00" = tx [48, 48] := by decide +kernel
  have kxs : PySem.Str.ofString "x" = tx [120] := by decide +kernel
  refine q_whenG (w := .str "looseTrue") (eg_told (D' := "Loose") (G := fun H' => LamX.ExtN H18 H' ∧ LamX.Tabs TL H' ∧ BookAt mg H' b B ∧ UnpAt mg H' u l2 b B s1 (ts.length - k) wy [] ∧ StandAt H' t2 s1) T29 (by decide) fun H30 n30 T30 E Q hE => ?_) (fun _ _ => ev_c) rfl tdL fun H31 H32 g31 e32 => ?_
  · have U30 := U29.exN n30
    obtain ⟨dx, u30, _⟩ := id U30
    obtain ⟨s3, hF3⟩ := hFr [48]
    refine er_met (ev_var rfl) u30 (uf_putN _ _ _ _) (ea_cons (ev_addT (ev_fromS (i := cut) (ev_var rfl) (ev_var rfl) (by omega)) (ev_is ev_c (congrArg V.str k0s)) (by simp only [List.length_singleton]; omega)) ea_nil) fun H31 e31 => ⟨u, l2, b, B, s1, _, wy, _, [], rfl, U30.ex e31, Taken.nil, (b29.exN n30).ex e31, hB, hOk, by omega, by rw [List.length_append]; show _ + 1 ≤ _; omega, by rw [List.length_append]; show wy.length + (_ + 1) ≤ _; omega, .inr ⟨List.all_eq_true.mpr fun c hc => decide_eq_true ?_, _, _, _, _, _, hF3, fun _ H32 x32 U32 => hE H32 ⟨extN_exS ((M29.trans n30).trans (LamX.ExtN.of e31)) x32 hfr, tabs_exS (T30.ext e31) x32 (U30.ex e31).insAt, U32.book ((b29.exN n30).ex e31) x32, U32, ((S29.exN n30).ex e31).exS x32 (U30.ex e31).insAt⟩, fun h => nomatch h⟩⟩
    rcases List.mem_append.mp hc with hc | hc
    · exact hrb c hc
    · exact .inl (List.mem_singleton.mp hc)
  obtain ⟨H', ⟨M30, T30, b30, U30, S30⟩, e31⟩ := g31
  have e' := e31.trans e32
  have U32 := U30.ex e'
  have b32 := b30.ex e'
  have S32 := S30.ex e'
  have T32 := T30.ext e'
  have M32 := M30.trans (LamX.ExtN.of e')
  clear M30 T30 b30 U30 S30 e31 e32 e' U29 b29 S29 T29 M29
  refine q_when (b := false) (same U32 S32) (fun hx => nomatch hx) (fun _ H33 e33 => ?_)
  have U33 := U32.ex e33
  have b33 := b32.ex e33
  have T33 := T32.ext e33
  have M33 := M32.trans (LamX.ExtN.of e33)
  clear U32 b32 S32 T32 M32 e33
  -- it goes on to the end
  obtain ⟨s3, hF3⟩ := hFr []
  rw [List.append_nil] at hF3
  have hO3 := (hF3.ok hB hOk).2.1
  refine q_orG (v := .str (tx ts)) (w := .str (tx ts)) (G := fun H' => LamX.ExtN H18 H' ∧ LamX.Tabs TL H' ∧ BookAt mg H' b B ∧ UnpAt mg H' u l2 b B s3 0 [] []) ?_ (fun _ _ => ev_var rfl) rfl rfl fun H34 H35 g34 e35 => ?_
  · have hts : ts.take k ++ ts.drop k = ts := List.take_append_drop k ts
    have := eg_addT (a := ts.take k) (b := ts.drop k) (ta := tVar 11) (H := H33) (tb := tMeth (cadr mg "Unpacker") "put" (sp_xput mg) [] E0 (tVar 9) (tCons (tSl rSlS (tVar 2) (tPart (tVar 10)) tNoPart) tNil)) (G := fun H' => LamX.ExtN H18 H' ∧ LamX.Tabs TL H' ∧ BookAt mg H' b B ∧ UnpAt mg H' u l2 b B s3 0 [] [])
      (σ := [some (.ref b), some (.str (tx ts)), some (.str (tx (packF B (LS.start B) ts))), some (.str (tx [odd])), some (.int at_), some (.ref p), some (.int (half : Int)), some (.str (tx (packF B (LS.start B) (ts.take half)))), some (.ref t2), some (.ref u), some (.int (cut : Int)), some (.str (tx (ts.take k))), some (.str (tx [wr]))]) (ev_var rfl) (fun H34 e34 Q q2 => ?_) (by rw [List.length_take, List.length_drop]; omega)
    · rw [hts] at this
      exact this
    · have U34 := U33.ex e34
      obtain ⟨dx, u34, _⟩ := id U34
      exact er_met (ev_var rfl) u34 (uf_putN _ _ _ _) (ea_cons (ev_fromS (i := cut) (ev_var rfl) (ev_var rfl) (by omega)) ea_nil) fun H35 e35 => ⟨u, l2, b, B, s1, _, wy, _, [], rfl, U34.ex e35, Taken.nil, (b33.ex e34).ex e35, hB, hOk, by omega, by omega, by omega, .inr ⟨List.all_eq_true.mpr fun c hc => decide_eq_true (hrb c hc), _, _, _, _, _, hF3, fun h => absurd rfl h, fun _ H36 x36 U36 => q2 H36 ⟨extN_exS (M33.trans (LamX.ExtN.of (e34.trans e35))) x36 hfr, tabs_exS (T33.ext (e34.trans e35)) x36 (U34.ex e35).insAt, U36.book ((b33.ex e34).ex e35) x36, U36⟩⟩⟩
  obtain ⟨M34, T34, b34, U34⟩ := g34
  have U35 := U34.ex e35
  have b35 := b34.ex e35
  have T35 := T34.ext e35
  have M35 := M34.trans (LamX.ExtN.of e35)
  clear M34 T34 b34 U34 e35 U33 b33 T33 M33
  obtain ⟨dx35, u35, _⟩ := id U35
  refine q_when (b := false) (et_is (et_test (ev_op (ev_fld (ev_var rfl) u35 T.cl_Unpacker T.na_Unpacker_left (uf_left _ _ _ _)) ev_c (rv_ne rfl))) rfl) (fun hx => nomatch hx) (fun _ H36 e36 => ?_)
  have U36 := U35.ex e36
  have b36 := b35.ex e36
  have T36 := T35.ext e36
  have M36 := M35.trans (LamX.ExtN.of e36)
  clear U35 b35 T35 M35 u35 e36
  -- behind the end
  refine q_whenG (w := .str "looseTrue") (eg_told (D' := "Loose") (G := fun H' => LamX.ExtN H18 H' ∧ LamX.Tabs TL H' ∧ BookAt mg H' b B ∧ UnpAt mg H' u l2 b B s3 0 [] []) T36 (by decide) fun H37 n37 T37 E Q hE => ?_) (fun _ _ => ev_c) rfl tdL fun H38 H39 g38 e39 => ?_
  · have U37 := U36.exN n37
    obtain ⟨dx, u37, _⟩ := id U37
    exact er_met (ev_var rfl) u37 (uf_putN _ _ _ _) (ea_cons (ev_is ev_c (congrArg V.str k1s)) ea_nil) fun H38 e38 => ⟨u, l2, b, B, s3, 0, [], [49], [], rfl, U37.ex e38, Taken.nil, (b36.exN n37).ex e38, hB, hO3, by decide, by decide, by decide, .inr ⟨by decide, _, _, _, _, _, .done, fun _ H39 x39 U39 => hE H39 ⟨extN_exS ((M36.trans n37).trans (LamX.ExtN.of e38)) x39 hfr, tabs_exS (T37.ext e38) x39 (U37.ex e38).insAt, U39.book ((b36.exN n37).ex e38) x39, U39⟩, fun h => nomatch h⟩⟩
  obtain ⟨H', ⟨M37, T37, b37, U37⟩, e38⟩ := g38
  have e' := e38.trans e39
  have U39 := U37.ex e'
  have b39 := b37.ex e'
  have T39 := T37.ext e'
  have M39 := M37.trans (LamX.ExtN.of e')
  clear M37 T37 b37 U37 e38 e39 e' U36 b36 T36 M36
  refine q_whenG (w := .str "bitTrue") (eg_told (D' := "BadBit") (G := fun H' => ∃ H1, LamX.ExtN H39 H1 ∧ LamX.Tabs TL H1 ∧ Ex H1 H') T39 (by decide) fun H40 n40 T40 E Q hE => ?_) (fun _ _ => ev_c) rfl tdB fun H41 H42 g41 e42 => ?_
  · have U40 := U39.exN n40
    obtain ⟨dx, u40, _⟩ := id U40
    exact er_met (ev_var rfl) u40 (uf_putN _ _ _ _) (ea_cons (ev_cal (ea_cons (ev_is ev_c (congrArg V.str k00)) (ea_cons (ev_var rfl) (ea_cons (ev_is ev_c (congrArg V.str kxs)) ea_nil))) (spv_putIn (by decide) (by decide))) ea_nil) fun H41 e41 => ⟨u, l2, b, B, s3, 0, [], _, [], rfl, U40.ex e41, Taken.nil, (b39.exN n40).ex e41, hB, hO3, by decide, by rw [putIn_len]; decide, by rw [putIn_len]; decide, .inl ⟨bits_bad (c := 120) (putIn_mem (List.mem_singleton.mpr rfl)) (by decide), fun H42 e42 => hE H42 ⟨H40, n40, T40, e41.trans e42⟩⟩⟩
  obtain ⟨H', ⟨H40, n40, T40, e40⟩, e41⟩ := g41
  have n42 : LamX.ExtN H39 H42 := n40.trans (LamX.ExtN.of ((e40.trans e41).trans e42))
  have U42 := U39.exN n42
  have b42 := b39.exN n42
  have T42 := T40.ext ((e40.trans e41).trans e42)
  have M42 := M39.trans n42
  clear n40 T40 e40 e41 e42 n42 U39 b39 T39 M39
  obtain ⟨dx42, u42, _⟩ := id U42
  refine s_retAndG (v := .str (tx [])) (w := .str (tx [])) (b := true) (G := fun H' => LamX.ExtN H18 H' ∧ LamX.Tabs TL H' ∧ UnpAt mg H' u l2 b B s3 0 [] []) (fun Q q2 => er_met (ev_var rfl) u42 (uf_putN _ _ _ _) (ea_cons (ev_is ev_c (congrArg V.str (show PySem.Str.ofString "" = tx [] by decide +kernel))) ea_nil) fun H43 e43 => ⟨u, l2, b, B, s3, 0, [], [], [], rfl, U42.ex e43, Taken.nil, b42.ex e43, hB, hO3, by decide, by decide, by decide, .inr ⟨by decide, _, _, _, _, _, .done, fun h => absurd rfl h, fun _ H44 x44 U44 => q2 H44 ⟨extN_exS (M42.trans (LamX.ExtN.of e43)) x44 hfr, tabs_exS (T42.ext e43) x44 (U42.ex e43).insAt, U44⟩⟩⟩)
    (fun _ _ => ev_is ev_c (congrArg V.str (show PySem.Str.ofString "" = tx [] by decide +kernel))) rfl rfl (fun H44 H45 g e => ?_) fun H44 H45 g e => q H45 ((N18.trans g.1).trans (LamX.ExtN.of e)) (g.2.1.ext e)
  obtain ⟨dx, hu', _⟩ := id (g.2.2.ex e)
  exact ev_is (ev_op (ev_fld (ev_var rfl) hu' T.cl_Unpacker T.na_Unpacker_left (uf_left _ _ _ _)) ev_c (rv_eq rfl)) rfl
def cellsOf (ns : List Int) (f n : Nat) : List Int := (List.range n).map fun k : Nat => cel ns (f + 1 + k) + (k : Int) * (cel ns f % 5)
theorem cells_at {ns : List Int} {f n i : Nat} {y : Int} (h : (cellsOf ns f n)[i]? = some y) : y = cel ns (f + 1 + i) + (i : Int) * (cel ns f % 5) ∧ i < n := by
  unfold cellsOf at h
  rw [List.getElem?_map] at h
  cases hz : (List.range n)[i]? with
  | none => rw [hz] at h; cases h
  | some z =>
    rw [hz] at h
    obtain ⟨h1, h2⟩ := List.getElem?_eq_some_iff.mp hz
    rw [List.getElem_range] at h2
    rw [List.length_range] at h1
    subst h2
    exact ⟨(Option.some.inj h).symm, h1⟩
theorem sign_atI {ss : List Nat} {i : Int} (h1 : 0 ≤ i) (h2 : i < ss.length) : atI (tx ss).cps.toList i = some (ss.getD i.toNat 0) := by
  rw [tx_cps]
  have e : i = ((i.toNat : Nat) : Int) := by omega
  rw [e]
  unfold atI ixN
  have hlt : i.toNat < ss.length := by omega
  rw [if_pos (by omega), if_pos (by omega)]
  show ss[((i.toNat : Nat) : Int).toNat]? = _
  rw [show ((i.toNat : Nat) : Int).toNat = i.toNat by omega, List.getElem?_eq_getElem hlt, List.getD_eq_getElem?_getD, List.getElem?_eq_getElem hlt]
  rfl
def sp_textBy (K : PySem.W.Frag) : Sp := fun vs H Q _ => ∃ (a : Addr) (ns : List Int) (f n : Nat) (ss : List Nat), vs = [.ref a, .int (f : Int), .str (tx ss), .int (n : Int)] ∧ SqL K H a (ns.map V.int) ∧ n ≤ 1000 ∧ 1 ≤ ss.length ∧ ss.length ≤ 100 ∧ RetV (.str (tx (textOf ns f ss n))) H Q
theorem ok_text_by {f : Addr} {fd : FuncData} (T : Txt K mg) (F : Fun K "_law_text_by" "_law_text_by" s_text_by f fd) (C__law_cell_at : Cal P w K mg base "_law_cell_at" ["_law_script", "_law_k"] 1 (sp_cell K)) : FnOk P w K mg base CX0 2 f fd ["_law_script", "_law_first", "_law_signs", "_law_size"] (sp_textBy K) := by
  refine F.ok sc_text_by (fun vs H Q E h => by obtain ⟨a, ns, f, n, ss, rfl, _⟩ := h; rfl) (fun cdv A outer s H vs Q E hr h => ?_)
  obtain ⟨a, ns, f, n, ss, rfl, hs, hn, hs1, hs2, q⟩ := h
  refine ⟨_, (pss_cons (ps_set (i := 4) sc_text_by.nd rfl (Or.inr rfl) (pe_op op_mod (pe_cal C__law_cell_at hr (by decide) (by rfl) (pa_cons (pv 0) (pa_cons (pv 1) pa_nil))) pe_int))
      (pss_cons (ps_setLc (i := 5) (own := [("_law_k", 6)]) (g := (gName 6)) (tt := tYes) rfl sc_text_by.nd rfl rfl (sw_true rfl rfl rfl (by decide +kernel)) (pi_range1 (by rfl) T.b_range (pa_cons (pv 3) pa_nil)) (blkOk_by (N := ["_law_script", "_law_first", "_law_signs", "_law_size", "_law_more", "_law_cells", "_law_k", "_law_cell"]) (sc := defScope s_text_by) (by decide +kernel)) (fun _ _ _ _ _ => (pg_name (i := 6) sc_text_by.nd rfl (Or.inl rfl))) (fun _ _ _ _ _ => pts_nil) (fun _ _ _ _ _ => (pe_op op_add (pe_cal C__law_cell_at hr (by decide) (by rfl) (pa_cons (pv 0) (pa_cons (pe_op op_add (pe_op op_add (pv 1) pe_int) (pv 6)) pa_nil))) (pe_op op_mul (pv 6) (pv 4)))))
      (pss_one (ps_ret (pe_bm PySem.F.plainAttrs_str PySem.F.slot_str_join PySem.F.type_str_join mt_join pe_str (pa_cons (pe_lc (own := [("_law_cell", 7)]) (g := (gName 7)) (tt := tYes) rfl sc_text_by.nd (pi_list (pv 5)) (blkOk_by (N := ["_law_script", "_law_first", "_law_signs", "_law_size", "_law_more", "_law_cells", "_law_k", "_law_cell"]) (sc := defScope s_text_by) (by decide +kernel)) (fun _ _ _ _ _ => (pg_name (i := 7) sc_text_by.nd rfl (Or.inl rfl))) (fun _ _ _ _ _ => pts_nil) (fun _ _ _ _ _ => (pe_ix ix_str (pv 2) (pe_op op_mod (pv 7) (pe_callB call_len_str (by rfl) T.b_len PySem.boot_len (pa_cons (pv 2) pa_nil))) (fun _ _ => rfl)))) pa_nil)))))), ?_⟩
  refine q_asg (ev_op (ev_cal (ea_cons (ev_var rfl) (ea_cons (ev_var rfl) ea_nil)) (spv_cell (j := f) hs rfl)) ev_c (rv_mod (by decide))) fun H1 e1 => ?_
  have hs' := ex_l e1 hs
  refine q_asgL (el_mapR ((cellsOf ns f n).map V.int) (ea_cons (ev_var rfl) ea_nil) ⟨by omega, by omega⟩ (by simp [cellsOf]) (fun _ => rfl) (fun i y H2 e2 hi hy => ?_)) fun p H2 hp e2 h2 => ?_
  · obtain ⟨y, rfl, hy2⟩ := int_at hy
    obtain ⟨rfl, hi⟩ := cells_at hy2
    refine ev_op (ev_cal (ea_cons (ev_var rfl) (ea_cons (ev_op (ev_op (ev_var rfl) ev_c rv_I0) (ev_var rfl) rv_I0) ea_nil)) (spv_cell (j := f + 1 + i) (ex_l e2 hs') (by omega))) (ev_op (ev_var rfl) (ev_var rfl) (rv_mul (.inl ⟨by omega, by omega⟩))) rv_I0
  have jn := join_ones (textOf ns f ss n)
  have tl := textOf_len ns f ss n
  refine s_ret (ev_is (ev_joinN (ys := (textOf ns f ss n).map fun c => tx [c]) (sep := tx []) (ev_is ev_c str0) ?_ ?_) (w := .str (tx (textOf ns f ss n))) (by rw [jn])) fun H4 e4 => q H4 ((e1.trans e2).trans e4)
  · refine el_mapL _ (ev_var rfl) (sq_of h2) (by simp [cellsOf, tl]) (by simp [cellsOf]; omega) (fun _ => rfl) (fun i x y H4 e4 h3 h4 => ?_)
    obtain ⟨x, rfl, h5⟩ := int_at h3
    obtain ⟨rfl, hi⟩ := cells_at h5
    have ey : y = .str (tx [ss.getD ((cel ns (f + 1 + i) + (i : Int) * (cel ns f % 5)) % (ss.length : Int)).toNat 0]) := by
      unfold textOf at h4
      rw [List.map_map, List.map_map, List.getElem?_map, List.getElem?_range hi] at h4
      exact (Option.some.inj h4).symm
    subst ey
    have g1 := Int.emod_nonneg (cel ns (f + 1 + i) + (i : Int) * (cel ns f % 5)) (show (ss.length : Int) ≠ 0 by omega)
    have g2 := Int.emod_lt_of_pos (cel ns (f + 1 + i) + (i : Int) * (cel ns f % 5)) (show 0 < (ss.length : Int) by omega)
    exact ev_op (ev_var rfl) (ev_op (ev_var rfl) (ev_is (ev_lenZ (ev_var rfl) (by rw [tx_len]; exact sz_of (by omega))) (by rw [tx_len])) (rv_mod (by omega))) (rv_ixS (by rw [tx_len]; omega) (sign_atI g1 g2))
  · rw [ones_sum, List.length_map, tl]
    show n + n * 0 ≤ 16777216
    omega
def RetU (xs : List V) (H : Hp) (Q : VK) : Prop := ∀ p H2, H p = none → Ex H H2 → H2 p = some (.tup xs) → Q (.ref p) H2
def bookU (B : Bk) : List V := [.str (tx B.ss), .int (B.size : Int), .int B.cap]
def sp_bookBy (K : PySem.W.Frag) : Sp := fun vs H Q _ => ∃ (a : Addr) (ns : List Int), vs = [.ref a] ∧ SqL K H a (ns.map V.int) ∧ RetU (bookU (bookOf ns)) H Q
theorem eu_cal {σ : L2.St} {H : Hp} {sp : Sp} {vs xs : List V} {E : XK} {ta : TA} (h : EvA ta σ H vs) (hs : ∀ H1, Ex H H1 → ∀ Q E, RetU xs H1 Q → sp vs H1 Q E) : EvU (tCall sp [] E ta) σ H xs := fun H1 e Q q =>
  h H1 e _ fun H2 e2 => by
    rw [List.append_nil]
    exact hs H2 (e.trans e2) _ _ fun p H3 hp e3 h3 => q p H3 (fresh_back e2 hp) (e2.trans e3) h3
theorem ok_book_by {f : Addr} {fd : FuncData} (T : Txt K mg) (F : Fun K "_law_book_by" "_law_book_by" s_book_by f fd) (C__law_many_by : Cal P w K mg base "_law_many_by" ["_law_cell"] 1 sp_many) (C__law_signs_by : Cal P w K mg base "_law_signs_by" ["_law_cell", "_law_many"] 1 sp_signs) (C__law_cell_at : Cal P w K mg base "_law_cell_at" ["_law_script", "_law_k"] 1 (sp_cell K)) : FnOk P w K mg base CX0 2 f fd ["_law_script"] (sp_bookBy K) := by
  refine F.ok sc_book_by (fun vs H Q E h => by obtain ⟨a, ns, rfl, _⟩ := h; rfl) (fun cdv A outer s H vs Q E hr h => ?_)
  obtain ⟨a, ns, rfl, hs, q⟩ := h
  refine ⟨_, (pss_cons (ps_set (i := 1) sc_book_by.nd rfl (Or.inl rfl) (pe_cal C__law_many_by hr (by decide) (by rfl) (pa_cons (pe_cal C__law_cell_at hr (by decide) (by rfl) (pa_cons (pv 0) (pa_cons pe_int pa_nil))) pa_nil)))
      (pss_cons (ps_set (i := 2) sc_book_by.nd rfl (Or.inl rfl) (pe_cal C__law_signs_by hr (by decide) (by rfl) (pa_cons (pe_cal C__law_cell_at hr (by decide) (by rfl) (pa_cons (pv 0) (pa_cons pe_int pa_nil))) (pa_cons (pv 1) pa_nil))))
      (pss_cons (ps_set (i := 3) sc_book_by.nd rfl (Or.inl rfl) (pe_op op_add pe_int (pe_op op_mod (pe_cal C__law_cell_at hr (by decide) (by rfl) (pa_cons (pv 0) (pa_cons pe_int pa_nil))) pe_int)))
      (pss_cons (ps_if (pt_cmpR op_eq (pe_op op_mod (pe_op op_fdiv (pe_cal C__law_cell_at hr (by decide) (by rfl) (pa_cons (pv 0) (pa_cons pe_int pa_nil))) pe_int) pe_int) pe_int (nomark _)) (pss_one (ps_set (i := 3) sc_book_by.nd rfl (Or.inl rfl) (pe_op op_add pe_int (pe_op op_mod (pe_op op_fdiv (pe_cal C__law_cell_at hr (by decide) (by rfl) (pa_cons (pv 0) (pa_cons pe_int pa_nil))) pe_int) pe_int)))) pss_nil)
      (pss_cons (ps_if (pt_cmpR op_gt (pv 1) pe_int (nomark _)) (pss_one (ps_set (i := 3) sc_book_by.nd rfl (Or.inl rfl) (pe_callB (call_max2 rfl) (by rfl) T.b_max (by decide +kernel) (pa_cons (pv 3) (pa_cons pe_int pa_nil))))) pss_nil)
      (pss_cons (ps_set (i := 4) sc_book_by.nd rfl (Or.inl rfl) (pe_op op_add (pv 1) (pe_op op_mod (pe_cal C__law_cell_at hr (by decide) (by rfl) (pa_cons (pv 0) (pa_cons pe_int pa_nil))) pe_int)))
      (pss_cons (ps_if (pt_cmpR op_eq (pe_op op_mod (pe_op op_fdiv (pe_cal C__law_cell_at hr (by decide) (by rfl) (pa_cons (pv 0) (pa_cons pe_int pa_nil))) pe_int) pe_int) pe_int (nomark _)) (pss_one (ps_set (i := 4) sc_book_by.nd rfl (Or.inl rfl) (pe_op op_add (pv 1) (pe_op op_mod (pe_op op_fdiv (pe_cal C__law_cell_at hr (by decide) (by rfl) (pa_cons (pv 0) (pa_cons pe_int pa_nil))) pe_int) (pe_op op_sub pe_int (pv 1)))))) pss_nil)
      (pss_one (ps_ret (pe_tup (pa_cons (pv 2) (pa_cons (pv 3) (pa_cons (pv 4) pa_nil))))))))))))), ?_⟩
  refine q_asg (ev_cal (ea_cons (ev_cal (ea_cons (ev_var rfl) (ea_cons ev_c ea_nil)) (spv_cell (j := 0) hs rfl)) ea_nil) (spv fun _ _ Q E q => ⟨_, rfl, q⟩)) fun H1 e1 => ?_
  have hm := manyOf_pos (cel ns 0)
  have hB : bookU (bookOf ns) = [.str (tx (signsOf (cel ns 1) (manyOf (cel ns 0)).toNat)), .int (((bkS (manyOf (cel ns 0)) (bkZ (cel ns 2))).toNat : Nat) : Int), .int (bkC (manyOf (cel ns 0)) (cel ns 3))] := rfl
  rw [hB] at q
  clear hB
  generalize manyOf (cel ns 0) = m at hm q ⊢
  refine q_asg (ev_cal (ea_cons (ev_cal (ea_cons (ev_var rfl) (ea_cons ev_c ea_nil)) (spv_cell (j := 1) (ex_l e1 hs) rfl)) (ea_cons (ev_var rfl) ea_nil)) (spv fun _ _ Q E q => ⟨_, m.toNat, by rw [show ((m.toNat : Nat) : Int) = m by omega], by omega, q⟩)) fun H2 e2 => ?_
  have e12 := e1.trans e2
  refine q_asg (ev_op ev_c (ev_op (ev_cal (ea_cons (ev_var rfl) (ea_cons ev_c ea_nil)) (spv_cell (j := 2) (ex_l e12 hs) rfl)) ev_c (rv_mod (by decide))) rv_I0) fun H3 e3 => ?_
  have e13 := e12.trans e3
  have hz := bkZ_ok (cel ns 2)
  refine q_ifAsg (v := .int (bkZ (cel ns 2))) (et_test (ev_op (ev_op (ev_op (ev_cal (ea_cons (ev_var rfl) (ea_cons ev_c ea_nil)) (spv_cell (j := 2) (ex_l e13 hs) rfl)) ev_c (rv_fdiv (by decide))) ev_c (rv_mod (by decide))) ev_c (rv_eq rfl))) (fun hb => ?_) (fun hb => ?_) fun H4 e4 => ?_
  · have hb : cel ns 2 / 6 % 4 = 1 := V.int.inj (of_decide_eq_true hb)
    refine ev_is (ev_op ev_c (ev_op (ev_op (ev_cal (ea_cons (ev_var rfl) (ea_cons ev_c ea_nil)) (spv_cell (j := 2) (ex_l e13 hs) rfl)) ev_c (rv_fdiv (by decide))) ev_c (rv_mod (by decide))) rv_I0) ?_
    unfold bkZ
    rw [if_pos hb]
  · have hb : ¬ cel ns 2 / 6 % 4 = 1 := fun z => of_decide_eq_false hb (by rw [z])
    unfold bkZ
    rw [if_neg hb]
    rfl
  generalize bkZ (cel ns 2) = z at hz q ⊢
  have e14 := e13.trans e4
  refine q_ifAsg (v := .int (bkS m z)) (et_test (ev_op (ev_var rfl) ev_c rv_I0)) (fun hb => ?_) (fun hb => ?_) fun H5 e5 => ?_
  · have hb := of_decide_eq_true hb
    refine ev_is (ev_max2 (ev_var rfl) ev_c) ?_
    unfold bkS
    rw [if_pos hb]
  · have hb := of_decide_eq_false hb
    unfold bkS
    rw [if_neg hb]
    rfl
  have hs2 := bkS_ok (m := m) hz
  generalize bkS m z = y at hs2 q ⊢
  have e15 := e14.trans e5
  refine q_asg (ev_op (ev_var rfl) (ev_op (ev_cal (ea_cons (ev_var rfl) (ea_cons ev_c ea_nil)) (spv_cell (j := 3) (ex_l e15 hs) rfl)) ev_c (rv_mod (by decide))) rv_I0) fun H6 e6 => ?_
  have e16 := e15.trans e6
  refine q_ifAsg (v := .int (bkC m (cel ns 3))) (et_test (ev_op (ev_op (ev_op (ev_cal (ea_cons (ev_var rfl) (ea_cons ev_c ea_nil)) (spv_cell (j := 3) (ex_l e16 hs) rfl)) ev_c (rv_fdiv (by decide))) ev_c (rv_mod (by decide))) ev_c (rv_eq rfl))) (fun hb => ?_) (fun hb => ?_) fun H7 e7 => ?_
  · have hb : cel ns 3 / 12 % 4 = 1 := V.int.inj (of_decide_eq_true hb)
    refine ev_is (ev_op (ev_var rfl) (ev_op (ev_op (ev_cal (ea_cons (ev_var rfl) (ea_cons ev_c ea_nil)) (spv_cell (j := 3) (ex_l e16 hs) rfl)) ev_c (rv_fdiv (by decide))) (ev_op ev_c (ev_var rfl) rv_I0) (rv_mod (by omega))) rv_I0) ?_
    unfold bkC
    rw [if_pos hb]
  · have hb : ¬ cel ns 3 / 12 % 4 = 1 := fun z => of_decide_eq_false hb (by rw [z])
    unfold bkC
    rw [if_neg hb]
    rfl
  refine s_retU (eu_tup (ea_cons (ev_var rfl) (ea_cons (ev_var rfl) (ea_cons (ev_var rfl) ea_nil))) (by simp)) fun p H8 hp e8 h8 => q p H8 (fresh_back (e16.trans e7) hp) ((e16.trans e7).trans e8) ?_
  rw [show ((y.toNat : Nat) : Int) = y by omega]
  exact h8
def sp_lawN (TL : List (Addr × Str)) (K : PySem.W.Frag) : Sp := fun vs H Q _ => ∃ (a : Addr) (ns : List Int), vs = [.ref a] ∧ SqL K H a (ns.map V.int) ∧ ns.length ≤ 63 ∧ LamX.Tabs TL H ∧ ∀ H', Q (.bl true) H'
theorem law_startN {cn : List (Str × Addr × Addr)} {H : Hp} {a : Addr} {ns : List Int} (hl : ns.length ≤ 63) (ht : ∀ e ∈ cn, H e.2.2 = some (.tbl #[])) (hS : SqL K H a (ns.map V.int)) : sp_lawN (tlOf cn) K [.ref a] H (fun v _ => v = .bl true) (fun _ _ _ => False) := ⟨a, ns, rfl, hS, hl, tabs_start ht, fun _ => rfl⟩
/-! what unpack does with the bits of the law -/
def outW : Out → Str
  | .ok _ => ""
  | .bad D => toldW D
def GoodO : Out → Prop
  | .ok _ => True
  | .bad D => D ∈ fiveE
theorem bits_all {P : List Nat} (h : ∀ b ∈ P, b = 48 ∨ b = 49) : BitsB P = true := List.all_eq_true.mpr fun c hc => decide_eq_true (h c hc)
theorem no_empty {B : Bk} {s : LS} (hs : s.Ok B) (h2 : 2 ≤ B.ss.length) (hd : B.ss.Nodup) : [] ∉ HF.codes s.ns := fun hw => by
  obtain ⟨j, hj⟩ := List.mem_iff_getElem?.mp hw
  have one : ∀ c ∈ B.ss, j = B.ss.idxOf c := fun c hc => HF.code_apart hs.sh.1 hj (show _ = some ([] ++ code1 B s c) from code1_get hs hc)
  have e0 := one _ (List.getElem_mem (show 0 < B.ss.length by omega))
  have e1 := one _ (List.getElem_mem (show 1 < B.ss.length by omega))
  have a0 := idx_at (List.getElem_mem (show 0 < B.ss.length by omega))
  have a1 := idx_at (List.getElem_mem (show 1 < B.ss.length by omega))
  rw [← e0] at a0
  rw [← e1, a0] at a1
  have := (List.getElem_inj hd).mp (Option.some.inj a1)
  omega
theorem codes_one (n : Int) : HF.codes [n] = [[]] := rfl
theorem pack_one {B : Bk} (hB : BookOk B) (h1 : B.ss.length = 1) : ∀ (cs : List Nat) (s : LS), s.Ok B → packF B s cs = []
  | [], _, _ => rfl
  | c :: cs, s, hs => by
    rw [packF_cons, pack_one hB h1 cs _ (LS.step_ok hB hs), List.append_nil]
    have hl := hs.len
    rw [h1] at hl
    obtain ⟨n, hn⟩ := List.length_eq_one_iff.mp hl
    unfold code1
    rw [hn, codes_one]
    cases B.ss.idxOf c <;> rfl
theorem pack_ne {B : Bk} (hB : BookOk B) (h2 : 2 ≤ B.ss.length) {s : LS} (hs : s.Ok B) {c : Nat} {cs : List Nat} (hc : c ∈ B.ss) : packF B s (c :: cs) ≠ [] := fun h => by
  rw [packF_cons] at h
  have h0 := (List.append_eq_nil_iff.mp h).1
  have := List.mem_of_getElem? (code1_get hs hc)
  rw [h0] at this
  exact no_empty hs h2 hB.1.2.2.1 this
section
variable {B : Bk} {ts : List Nat} {m : Nat}
theorem unp_whole (hB : BookOk B) (hm : ∀ c ∈ ts, c ∈ B.ss) (hn : ts.length ≤ 2000) : UnpTo B (packF B (LS.start B) ts) (ts.length : Int) (.ok (.str (tx ts))) := by
  have hO := LS.start_ok hB
  obtain ⟨k1, _⟩ := packF_ok hB ts _ hO hm
  have hF := Fol.whole hB hO hm []
  rw [List.append_nil] at hF
  exact .inr ⟨_, rfl, hn, .inr ⟨bits_all k1, _, _, _, _, _, hF, .inr (.inr ⟨rfl, rfl, rfl⟩)⟩⟩
theorem unp_more (hB : BookOk B) (hm : ∀ c ∈ ts, c ∈ B.ss) (hn : ts.length ≤ 2000) : UnpTo B (packF B (LS.start B) ts ++ [48]) (ts.length : Int) (.bad "Loose") := by
  have hO := LS.start_ok hB
  obtain ⟨k1, _⟩ := packF_ok hB ts _ hO hm
  refine .inr ⟨_, rfl, hn, .inr ⟨bits_all fun b hb => ?_, _, _, _, _, _, Fol.whole hB hO hm [48], .inl ⟨by simp, rfl⟩⟩⟩
  rcases List.mem_append.mp hb with hb | hb
  · exact k1 b hb
  · exact .inl (by simpa using hb)
theorem unp_less (hB : BookOk B) (hm : ∀ c ∈ ts, c ∈ B.ss) (hn : ts.length ≤ 2000) (hP : packF B (LS.start B) ts ≠ []) : UnpTo B (packF B (LS.start B) ts).dropLast (ts.length : Int) (.bad "Short") := by
  have hO := LS.start_ok hB
  obtain ⟨k1, _⟩ := packF_ok hB ts _ hO hm
  obtain ⟨k, wy, hk2, hF, hpk, hwo, _⟩ := Fol.part hB ts (LS.start B) [] (packF B (LS.start B) ts).dropLast [(packF B (LS.start B) ts).getLast hP] hO hm (by
    cases ts with
    | nil => exact rfl
    | cons c r => exact ⟨_, rfl⟩) (by rw [List.nil_append, List.dropLast_concat_getLast])
  refine .inr ⟨_, rfl, hn, .inr ⟨bits_all fun b hb => k1 b ((List.dropLast_subset _) hb), _, _, _, _, _, hF, .inr (.inl ⟨rfl, ?_, rfl⟩)⟩⟩
  rcases Nat.lt_or_ge k ts.length with h | h
  · omega
  have hpk := congrArg List.length hpk
  rw [List.take_of_length_le h, List.length_append, List.nil_append, List.length_dropLast] at hpk
  have := List.length_pos_iff.mpr hP
  omega
theorem unp_low (hB : BookOk B) (hm : ∀ c ∈ ts, c ∈ B.ss) (hn : ts.length ≤ 2000) (h : m < ts.length) (h2 : 1 < B.ss.length) : UnpTo B (packF B (LS.start B) ts) (m : Int) (.bad "Loose") := by
  have hO := LS.start_ok hB
  obtain ⟨k1, _⟩ := packF_ok hB ts _ hO hm
  have hF := Fol.whole hB hO (ts := ts.take m) (fun c hc => hm c (List.mem_of_mem_take hc)) (packF B ((LS.start B).steps B (ts.take m)) (ts.drop m))
  rw [← packF_app, List.take_append_drop, List.length_take, Nat.min_eq_left (Nat.le_of_lt h)] at hF
  refine .inr ⟨_, rfl, by omega, .inr ⟨bits_all k1, _, _, _, _, _, hF, .inl ⟨?_, rfl⟩⟩⟩
  rw [List.drop_eq_getElem_cons h]
  exact pack_ne hB h2 (LS.steps_ok hB _ _ hO) (hm _ (List.getElem_mem h))
theorem unp_low1 (hB : BookOk B) (hm : ∀ c ∈ ts, c ∈ B.ss) (hn : ts.length ≤ 2000) (h : m < ts.length) (h2 : B.ss.length = 1) : UnpTo B (packF B (LS.start B) ts) (m : Int) (.ok (.str (tx (ts.take m)))) := by
  have hO := LS.start_ok hB
  obtain ⟨k1, _⟩ := packF_ok hB ts _ hO hm
  have hF := Fol.whole hB hO (ts := ts.take m) (fun c hc => hm c (List.mem_of_mem_take hc)) []
  rw [List.append_nil, pack_one hB h2 _ _ hO, List.length_take, Nat.min_eq_left (Nat.le_of_lt h)] at hF
  rw [pack_one hB h2 _ _ hO]
  exact .inr ⟨_, rfl, by omega, .inr ⟨by decide, _, _, _, _, _, hF, .inr (.inr ⟨rfl, rfl, rfl⟩)⟩⟩
theorem unp_high (hB : BookOk B) (hm : ∀ c ∈ ts, c ∈ B.ss) (h : ts.length < m) (h4 : m ≤ 2000) (h2 : 1 < B.ss.length) : UnpTo B (packF B (LS.start B) ts) (m : Int) (.bad "Short") := by
  have hO := LS.start_ok hB
  obtain ⟨k1, _⟩ := packF_ok hB ts _ hO hm
  have hO2 := LS.steps_ok hB ts _ hO
  have hF := Fol.text hB (n := m - ts.length - 1 + 1) (rest := []) (kn := []) ts (LS.start B) hO hm (.stuck (no_empty hO2 (by omega) hB.1.2.2.1))
  rw [List.append_nil, List.append_nil, show m - ts.length - 1 + 1 + ts.length = m by omega] at hF
  exact .inr ⟨m, rfl, h4, .inr ⟨bits_all k1, ts, _, _, _, _, hF, .inr (.inl ⟨rfl, by omega, rfl⟩)⟩⟩
theorem unp_high1 (hB : BookOk B) (h4 : m ≤ 2000) (h2 : B.ss.length = 1) : ∃ us : List Nat, UnpTo B (packF B (LS.start B) ts) (m : Int) (.ok (.str (tx us))) := by
  have hO := LS.start_ok hB
  obtain ⟨c, hc⟩ := List.length_eq_one_iff.mp h2
  have hF := Fol.whole hB hO (ts := List.replicate m c) (fun d hd => by rw [List.eq_of_mem_replicate hd, hc]; simp) []
  rw [List.append_nil, pack_one hB h2 _ _ hO, List.length_replicate] at hF
  rw [pack_one hB h2 _ _ hO]
  exact ⟨_, .inr ⟨_, rfl, h4, .inr ⟨by decide, _, _, _, _, _, hF, .inr (.inr ⟨rfl, rfl, rfl⟩)⟩⟩⟩
/-- the bits, and what is due -/
def lastBits (P : List Nat) (n m : Nat) (way : Int) : List Nat := if m = n ∧ way = 2 then P ++ [48] else if m = n ∧ way = 3 ∧ P ≠ [] then P.dropLast else P
def lastDue (P : List Nat) (k n m : Nat) (way : Int) : Str := if m = n ∧ way = 3 ∧ P ≠ [] then "shortTrue" else if n < m ∧ 1 < k then "shortTrue" else if (m < n ∧ 1 < k) ∨ (m = n ∧ way = 2) then "looseTrue" else ""
theorem last_to (hB : BookOk B) (hm : ∀ c ∈ ts, c ∈ B.ss) (hn : ts.length ≤ 2000) (h4 : m ≤ 2000) (way : Int) :
    ∃ o, UnpTo B (lastBits (packF B (LS.start B) ts) ts.length m way) (m : Int) o ∧ GoodO o ∧ outW o = lastDue (packF B (LS.start B) ts) B.ss.length ts.length m way := by
  have hk := hB.1.1
  unfold lastBits lastDue
  have tl : toldW "Loose" = "looseTrue" := by decide +kernel
  have ts' : toldW "Short" = "shortTrue" := by decide +kernel
  rcases Nat.lt_trichotomy m ts.length with h | h | h
  · rw [if_neg (by omega), if_neg (by omega), if_neg (by omega), if_neg (by omega)]
    rcases Nat.lt_or_ge 1 B.ss.length with h2 | h2
    · rw [if_pos (.inl ⟨h, h2⟩)]
      exact ⟨_, unp_low hB hm hn h h2, by show _ ∈ fiveE; decide, tl⟩
    · rw [if_neg (by omega)]
      exact ⟨_, unp_low1 hB hm hn h (by omega), True.intro, rfl⟩
  · subst h
    by_cases h2 : way = 2
    · rw [if_pos ⟨rfl, h2⟩, if_neg (by omega), if_neg (by omega), if_pos (.inr ⟨rfl, h2⟩)]
      exact ⟨_, unp_more hB hm hn, by show _ ∈ fiveE; decide, tl⟩
    · rw [if_neg (by omega)]
      by_cases h3 : way = 3 ∧ packF B (LS.start B) ts ≠ []
      · rw [if_pos ⟨rfl, h3⟩, if_pos ⟨rfl, h3⟩]
        exact ⟨_, unp_less hB hm hn h3.2, by show _ ∈ fiveE; decide, ts'⟩
      · rw [if_neg (fun z => h3 z.2), if_neg (fun z => h3 z.2), if_neg (by omega), if_neg (by omega)]
        exact ⟨_, unp_whole hB hm hn, True.intro, rfl⟩
  · rw [if_neg (by omega), if_neg (by omega), if_neg (by omega)]
    rcases Nat.lt_or_ge 1 B.ss.length with h2 | h2
    · rw [if_pos ⟨h, h2⟩]
      exact ⟨_, unp_high hB hm h h4 h2, by show _ ∈ fiveE; decide, ts'⟩
    · rw [if_neg (by omega), if_neg (by omega)]
      obtain ⟨us, hu⟩ := unp_high1 (ts := ts) hB h4 (show B.ss.length = 1 by omega)
      exact ⟨_, hu, True.intro, rfl⟩
end
theorem sql_exN {H H' : Hp} {a : Addr} {xs : List V} (h : SqL K H a xs) (e : LamX.ExtN H H') : SqL K H' a xs := h.imp (fun z => z.imp (fun z => e _ _ z (fun _ z => nomatch z)) (fun ⟨o, z⟩ => ⟨o, e _ _ z (fun _ z => nomatch z)⟩)) id
/-- what told tells, behind a change -/
theorem eg_tell {mg : Str → Option Value} {TL : List (Addr × Str)} {σ : L2.St} {H : Hp} {t : XK → TE} {o : Out} (hT : LamX.Tabs TL H) (hD : GoodO o) (k : ∀ H1, LamX.ExtN H H1 → LamX.Tabs TL H1 → ∀ (E : XK) (Q : VK), RetX mg o H1 Q E → t E σ H1 Q) :
    EvG (tCalLam TL (spA_told mg) t) σ H (.str (outW o)) (fun H2 => ∃ H1, LamX.ExtN H H1 ∧ LamX.Tabs TL H1 ∧ Ex H1 H2) := fun Q q =>
  And.intro hT fun H1 n1 T1 => k H1 n1 T1 _ _ fun H2 e2 => by
    cases o with
    | ok v => exact fun H3 e3 => q H3 ⟨H1, n1, T1, e2.trans e3⟩
    | bad D => exact ⟨D, hD, rfl, rfl, fun H3 e3 => q H3 ⟨H1, n1, T1, e2.trans e3⟩⟩
section
variable {σ : L2.St} {H : Hp} {te tw : TE} {tu tz : TS} {D : Ends} {v w : V} {G : Hp → Prop}
theorem q_notG (h : EvG te σ H (.bl true) G) (k : ∀ H2, G H2 → tz D σ H2) : tSeq (tIfS (tNot (tB te)) tu tNext) tz D σ H :=
  h _ fun H2 g => Exists.intro true (And.intro rfl (k H2 g))
theorem s_retG (h : EvG te σ H v G) (hw : ∀ H2, G H2 → Ev tw σ H2 w) (hs : scal v w = true) (e : v = w) (k : ∀ H2 H3, G H2 → Ex H2 H3 → D.rt (.bl true) H3) : tRet (tOp rEq te tw) D σ H :=
  h _ fun H2 g => hw H2 g H2 (Ex.refl _) _ fun H3 e3 => And.intro hs (by
    have hd : decide (v = w) = true := decide_eq_true e
    rw [hd]
    exact k H2 H3 g e3)
end
section
variable {mg : Str → Option Value} {σ : L2.St} {H : Hp} {t : TA} {E E' : XK} {B : Bk} {b : Addr}
theorem ev_unpLeft (T : Txt K mg) (ha : EvA t σ H [.ref b, .int 2000]) (hb : BookAt mg H b B) (hB : BookOk B) : Ev (tFld K (tMake (cadr mg "Unpacker") (sp_xUinit mg) [] E t) "left") σ H (.int 2000) := fun H1 e Q q =>
  qx_unpacker (fun H2 e2 => ha H2 (e.trans e2)) (hb.ex e) hB Taken.nil (.inr ⟨2000, rfl, by decide, fun u l H2 hu hl e2 U2 => by
    obtain ⟨dx, h1, _⟩ := id U2
    exact ⟨u, _, dx, _, _, rfl, h1, T.cl_Unpacker, T.na_Unpacker_left, uf_left _ _ _ _, q H2 e2⟩⟩)
theorem ev_unpNone (ha : EvA t σ H [.ref b, .int 0]) (hb : BookAt mg H b B) (hB : BookOk B) : Ev (tMeth (cadr mg "Unpacker") "put" (sp_xput mg) [] E' (tMake (cadr mg "Unpacker") (sp_xUinit mg) [] E t) (tCons (tC (.str (PySem.Str.ofString ""))) tNil)) σ H (.str (tx [])) := fun H1 e Q q =>
  er_of (qx_unpacker (fun H2 e2 => ha H2 (e.trans e2)) (hb.ex e) hB Taken.nil (.inr ⟨0, rfl, by decide, fun u l H2 hu hl e2 U2 => by
    obtain ⟨dx, h1, _⟩ := id U2
    refine ⟨u, dx, _, rfl, h1, uf_putN _ _ _ _, (ea_cons (ev_is ev_c (congrArg V.str (show PySem.Str.ofString "" = tx [] by decide +kernel))) ea_nil) H2 (Ex.refl _) _ fun H3 e3 => ⟨u, l, b, B, _, 0, [], [], [], rfl, U2.ex e3, Taken.nil, (hb.ex e).ex (e2.trans e3), hB, LS.start_ok hB, by decide, by decide, by decide, .inr ⟨by decide, _, _, _, _, _, .done, fun h => absurd rfl h, fun _ H4 x4 U4 => q H4 (x4.ex (e2.trans e3) fun a ha => ?_)⟩⟩⟩
    rcases List.mem_cons.mp ha with z | ha
    · rw [z]; exact hl
    · rw [List.mem_singleton.mp ha]; exact hu⟩))
end
def mores : List Nat := [50, 32, 97, 79, 108, 45, 10, 9]
theorem mores_no : ∀ i : Fin 8, ¬ (mores.getD i 0 = 48 ∨ mores.getD i 0 = 49) := by decide
theorem mores_at {i : Int} (h0 : 0 ≤ i) (h1 : i < 8) : atI ([.str "2", .str " ", .str "a", .str "O", .str "l", .str "-", .str "\n", .str "\t"] : List V) i = some (.str (tx [mores.getD i.toNat 0])) := by
  obtain ⟨k, rfl⟩ : ∃ k : Nat, i = (k : Int) := ⟨i.toNat, by omega⟩
  refine atI_nat ?_
  rw [Int.toNat_natCast]
  match k, h1 with
  | 0, _ => exact congrArg (fun s => some (V.str s)) (by decide +kernel)
  | 1, _ => exact congrArg (fun s => some (V.str s)) (by decide +kernel)
  | 2, _ => exact congrArg (fun s => some (V.str s)) (by decide +kernel)
  | 3, _ => exact congrArg (fun s => some (V.str s)) (by decide +kernel)
  | 4, _ => exact congrArg (fun s => some (V.str s)) (by decide +kernel)
  | 5, _ => exact congrArg (fun s => some (V.str s)) (by decide +kernel)
  | 6, _ => exact congrArg (fun s => some (V.str s)) (by decide +kernel)
  | 7, _ => exact congrArg (fun s => some (V.str s)) (by decide +kernel)
  | k + 8, h => omega
theorem odds_at {o : Nat} {P : Nat → Prop} (h : P o) (h1 : P 10) (h2 : P 9) {i : Int} (h0 : 0 ≤ i) (h4 : i < 4) : ∃ c, P c ∧ atI ([.str (tx [o]), .str (tx [o]), .str "\n", .str "\t"] : List V) i = some (.str (tx [c])) := by
  obtain ⟨k, rfl⟩ : ∃ k : Nat, i = (k : Int) := ⟨i.toNat, by omega⟩
  match k, h4 with
  | 0, _ => exact ⟨o, h, atI_nat rfl⟩
  | 1, _ => exact ⟨o, h, atI_nat rfl⟩
  | 2, _ => exact ⟨10, h1, atI_nat (congrArg (fun s => some (V.str s)) (by decide +kernel))⟩
  | 3, _ => exact ⟨9, h2, atI_nat (congrArg (fun s => some (V.str s)) (by decide +kernel))⟩
  | k + 4, h => omega
theorem tdC : V.str (toldW "BadCount") = V.str "countTrue" := congrArg V.str (by decide +kernel)
theorem cutS_less (l : List Nat) : cutS (tx l) none (some (-1)) = tx l.dropLast := by
  unfold cutS
  rw [HT.sIx_none, tx_cps, tx_len, List.drop_zero, Nat.sub_zero, show HT.sIx l.length l.length (some (-1)) = l.length - 1 from ?_, List.dropLast_eq_take]
  · rfl
  · unfold HT.sIx; simp; omega
theorem ev_lessS {σ : L2.St} {H : Hp} {te tl : TE} {l : List Nat} (h : Ev te σ H (.str (tx l))) (hn : Ev tl σ H (.int (-1))) (hz : l.length ≤ 100000) : Ev (tSl rSlS te tNoPart (tPart tl)) σ H (.str (tx l.dropLast)) := fun H1 e Q q =>
  h H1 e _ fun H2 e2 => hn H2 (e.trans e2) _ fun H3 e3 => ⟨-1, rfl, tx l, rfl, by rw [tx_len]; exact sz_of hz, by
    rw [cutS_less]
    exact q H3 (e2.trans e3)⟩
theorem ok_law {f : Addr} {fd : FuncData} {lc lP : Addr} {TL : List (Addr × Str)} (T : Txt K mg) (F : Fun K "law" "law" s_law f fd) (hcd : fd.code = .ref lc) (TB : LamX.TabB base mg lc lP) (hm : (lP, lq "law") ∈ TL) (hu : ∀ p ∈ TL, p.1 = lP → p.2 = lq "law") (C__law_book_by : Cal P w K mg base "_law_book_by" ["_law_script"] 2 (sp_bookBy K)) (N_Book : Mkr P w K mg base "Book" ["self", "signs", "size", "cap"] 2 (sp_Binit mg)) (C__law_text_by : Cal P w K mg base "_law_text_by" ["_law_script", "_law_first", "_law_signs", "_law_size"] 2 (sp_textBy K)) (C_pack : Cal P w K mg base "pack" ["book", "text"] 9 (sp_pack mg)) (C__law_signs_by : Cal P w K mg base "_law_signs_by" ["_law_cell", "_law_many"] 1 sp_signs) (C__law_count_drawn : Cal P w K mg base "_law_count_drawn" ["_law_cell", "_law_many"] 1 (sp_cntDrawn K)) (C__law_cell_at : Cal P w K mg base "_law_cell_at" ["_law_script", "_law_k"] 1 (sp_cell K)) (C__law_told : CalA P w K mg base "_law_told" "_law_call" 13 12 (spA_told mg)) (C__law_goes_on : Cal P w K mg base "_law_goes_on" ["_law_book", "_law_text", "_law_bits", "_law_odd", "_law_at"] 14 (sp_goes TL mg)) (C__law_count_due : Cal P w K mg base "_law_count_due" ["_law_thing"] 1 sp_cntDue) (M_Unpacker_put : MetX P w K mg base "Unpacker" "put" ["self", "bits"] 9 (sp_xput mg)) (N_Unpacker : MkrX P w K mg base "Unpacker" ["self", "book", "many"] 7 (sp_xUinit mg)) (C_unpack : CalX P w K mg base "unpack" ["book", "bits", "many"] 10 (sp_xunpack mg)) (C_pack_Vx : CalX P w K mg base "pack" ["book", "text"] 9 (sp_xpack mg)) (N_Unpacker_Vx : MkrX P w K mg base "Unpacker" ["self", "book", "many"] 2 (sp_yUinit mg)) (C_unpack_Vx : CalX P w K mg base "unpack" ["book", "bits", "many"] 4 (sp_yunpack mg)) : FnOk P w K mg base CX0 15 f fd ["_law_script"] (sp_lawN TL K) := by
  refine okC F sc_law hcd (fun vs H Q E h => by obtain ⟨a, ns, rfl, _⟩ := h; rfl) (fun A outer s H vs Q E hr h => ?_)
  obtain ⟨a, ns, rfl, hs, hlen, hT, q⟩ := h
  refine ⟨_, (pss_cons (ps_asg (pe_cal C__law_book_by hr (by decide) (by rfl) (pa_cons (pv 0) pa_nil)) (pg_tup rfl (pgs_cons (pg_name (i := 1) sc_law.nd rfl (Or.inl rfl)) (pgs_cons (pg_name (i := 2) sc_law.nd rfl (Or.inl rfl)) (pgs_cons (pg_name (i := 3) sc_law.nd rfl (Or.inl rfl)) pgs_nil)))))
      (pss_cons (ps_set (i := 4) sc_law.nd rfl (Or.inr rfl) (pe_mkr N_Book hr (by decide) (by rfl) (pa_cons (pv 1) (pa_cons (pv 2) (pa_cons (pv 3) pa_nil)))))
      (pss_cons (ps_set (i := 5) sc_law.nd rfl (Or.inr rfl) (pe_cal C__law_text_by hr (by decide) (by rfl) (pa_cons (pv 0) (pa_cons pe_int (pa_cons (pv 1) (pa_cons (pe_op op_mod (pe_cal C__law_cell_at hr (by decide) (by rfl) (pa_cons (pv 0) (pa_cons pe_int pa_nil))) pe_int) pa_nil))))))
      (pss_cons (ps_set (i := 6) sc_law.nd rfl (Or.inr rfl) (pe_cal C_pack hr (by decide) (by rfl) (pa_cons (pv 4) (pa_cons (pv 5) pa_nil))))
      (pss_cons (ps_set (i := 7) sc_law.nd rfl (Or.inr rfl) pe_str)
      (pss_cons (ps_for PassesOwn.never rfl (pi_str (pe_cal C__law_signs_by hr (by decide) (by rfl) (pa_cons (pe_cal C__law_cell_at hr (by decide) (by rfl) (pa_cons (pv 0) (pa_cons pe_int pa_nil))) (pa_cons pe_int pa_nil)))) (pg_name (i := 8) sc_law.nd rfl (Or.inl rfl)) (pss_one (ps_if (pt_cmpR op_notIn_sign (pv 8) (pv 1) (by rfl)) (pss_one (ps_set (i := 7) sc_law.nd rfl (Or.inr rfl) (pv 8))) pss_nil)))
      (pss_cons (ps_set (i := 7) sc_law.nd rfl (Or.inr rfl) (pe_ix ix_list (pe_lst (pa_cons (pv 7) (pa_cons (pv 7) (pa_cons pe_str (pa_cons pe_str pa_nil))))) (pe_op op_mod (pe_cal C__law_cell_at hr (by decide) (by rfl) (pa_cons (pv 0) (pa_cons pe_int pa_nil))) pe_int) (fun _ _ => rfl)))
      (pss_cons (ps_set (i := 9) sc_law.nd rfl (Or.inr rfl) (pe_op op_mod (pe_cal C__law_cell_at hr (by decide) (by rfl) (pa_cons (pv 0) (pa_cons pe_int pa_nil))) (pe_op op_add (pe_callB call_len_str (by rfl) T.b_len PySem.boot_len (pa_cons (pv 6) pa_nil)) pe_int)))
      (pss_cons (ps_set (i := 10) sc_law.nd rfl (Or.inl rfl) (pe_op op_mod (pe_cal C__law_cell_at hr (by decide) (by rfl) (pa_cons (pv 0) (pa_cons pe_int pa_nil))) pe_int))
      (pss_cons (ps_if (pt_cmpR op_ne (pe_calLam (m := 11) (dk := false) C__law_told hr (by decide) (by rfl) TB rfl hm hu (lamL_at (N := ["_law_script", "_law_signs", "_law_size", "_law_cap", "_law_book", "_law_text", "_law_bits", "_law_odd", "_law_sign", "_law_at", "_law_way", "_law_count", "_law_more", "_law_wrong", "_law_due"]) (sc := defScope s_law) rfl rfl (by decide +kernel)) ⟨fun _ _ _ _ _ _ _ => rfl, nofun⟩ (Or.inl ⟨rfl, rfl⟩) (by decide) (fun A outer s H E f c' hr => (pe_calX C_pack_Vx (pass_on (E := E) rfl rfl rfl rfl) hr (by decide) (by rfl) (pa_cons (pv 4) (pa_cons (pe_op op_add_str (pe_op op_add_str (pe_slice sl_str (pv 5) po_none (po_some (pv 9))) (pv 7)) (pe_slice sl_str (pv 5) (po_some (pv 9)) po_none)) pa_nil))))) pe_str (nomark _)) (pss_one (ps_ret pe_bl)) pss_nil)
      (pss_cons (ps_if (pt_not (pt_val (pe_cal C__law_goes_on hr (by decide) (by rfl) (pa_cons (pv 4) (pa_cons (pv 5) (pa_cons (pv 6) (pa_cons (pv 7) (pa_cons (pe_op op_mod (pe_cal C__law_cell_at hr (by decide) (by rfl) (pa_cons (pv 0) (pa_cons pe_int pa_nil))) pe_int) pa_nil)))))))) (pss_one (ps_ret pe_bl)) pss_nil)
      (pss_cons (ps_if (PW.pt (pw_or (pt_cmpR op_ne (pe_fld (pe_mkrX N_Unpacker passL hr (by decide) (by rfl) (pa_cons (pv 4) (pa_cons pe_int pa_nil))) rfl) pe_int (nomark _)) (pw_or1 (pt_cmpR op_ne (pe_metX M_Unpacker_put passL hr (by decide) (pe_mkrX N_Unpacker passL hr (by decide) (by rfl) (pa_cons (pv 4) (pa_cons pe_int pa_nil))) (pa_cons pe_str pa_nil)) pe_str (nomark _))))) (pss_one (ps_ret pe_bl)) pss_nil)
      (pss_cons (ps_set (i := 11) sc_law.nd rfl (Or.inr rfl) (pe_cal C__law_count_drawn hr (by decide) (by rfl) (pa_cons (pe_cal C__law_cell_at hr (by decide) (by rfl) (pa_cons (pv 0) (pa_cons pe_int pa_nil))) (pa_cons (pe_callB call_len_str (by rfl) T.b_len PySem.boot_len (pa_cons (pv 5) pa_nil)) pa_nil))))
      (pss_cons (ps_if (pt_not (pt_val (pe_cal C__law_count_due hr (by decide) (by rfl) (pa_cons (pv 11) pa_nil)))) (pss_cons (ps_if (pt_cmpR op_ne (pe_calLam (m := 11) (dk := true) C__law_told hr (by decide) (by rfl) TB rfl hm hu (lamL_at (N := ["_law_script", "_law_signs", "_law_size", "_law_cap", "_law_book", "_law_text", "_law_bits", "_law_odd", "_law_sign", "_law_at", "_law_way", "_law_count", "_law_more", "_law_wrong", "_law_due"]) (sc := defScope s_law) rfl rfl (by decide +kernel)) ⟨nofun, fun _ => ⟨"_law_one", rfl, fun _ _ _ _ _ _ _ => ⟨_, rfl, fun _ => rfl⟩⟩⟩ (Or.inr ⟨rfl, _, _, rfl⟩) (by decide) (fun A outer s H E f c' hr => (pe_mkrXm (mg := mg) rfl N_Unpacker_Vx (pass_on (E := E) rfl rfl rfl rfl) hr (by decide) (by rfl) (pa_cons (pv 4) (pa_cons (pv 11) pa_nil))))) pe_str (nomark _)) (pss_one (ps_ret pe_bl)) pss_nil)
      (pss_one (ps_ret (pe_cmpR op_eq (pe_calLam (m := 11) (dk := true) C__law_told hr (by decide) (by rfl) TB rfl hm hu (lamL_at (N := ["_law_script", "_law_signs", "_law_size", "_law_cap", "_law_book", "_law_text", "_law_bits", "_law_odd", "_law_sign", "_law_at", "_law_way", "_law_count", "_law_more", "_law_wrong", "_law_due"]) (sc := defScope s_law) rfl rfl (by decide +kernel)) ⟨nofun, fun _ => ⟨"_law_two", rfl, fun _ _ _ _ _ _ _ => ⟨_, rfl, fun _ => rfl⟩⟩⟩ (Or.inr ⟨rfl, _, _, rfl⟩) (by decide) (fun A outer s H E f c' hr => (pe_either (pe_calX C_unpack (pass_on (E := E) rfl rfl rfl rfl) hr (by decide) (by rfl) (pa_cons (pv 4) (pa_cons (pe_op op_add_str (pv 6) pe_str) (pa_cons (pv 11) pa_nil)))) (pe_calX C_unpack_Vx (pass_on (E := E) rfl rfl rfl rfl) hr (by decide) (by rfl) (pa_cons (pv 4) (pa_cons (pe_op op_add_str (pv 6) pe_str) (pa_cons (pv 11) pa_nil))))))) pe_str (nomark _))))) pss_nil)
      (pss_cons (ps_if (pt_cmpR op_eq (pv 10) pe_int (nomark _)) (pss_cons (ps_set (i := 12) sc_law.nd rfl (Or.inl rfl) (pe_ix ix_list (pe_lst (pa_cons pe_str (pa_cons pe_str (pa_cons pe_str (pa_cons pe_str (pa_cons pe_str (pa_cons pe_str (pa_cons pe_str (pa_cons pe_str pa_nil))))))))) (pe_op op_mod (pe_cal C__law_cell_at hr (by decide) (by rfl) (pa_cons (pv 0) (pa_cons pe_int pa_nil))) pe_int) (fun _ _ => rfl)))
      (pss_cons (ps_set (i := 13) sc_law.nd rfl (Or.inr rfl) (pe_op op_add_str (pe_op op_add_str (pe_slice sl_str (pv 6) po_none (po_some (pv 9))) (pv 12)) (pe_slice sl_str (pv 6) (po_some (pv 9)) po_none)))
      (pss_one (ps_ret (pe_cmpR op_eq (pe_calLam (m := 11) (dk := false) C__law_told hr (by decide) (by rfl) TB rfl hm hu (lamL_at (N := ["_law_script", "_law_signs", "_law_size", "_law_cap", "_law_book", "_law_text", "_law_bits", "_law_odd", "_law_sign", "_law_at", "_law_way", "_law_count", "_law_more", "_law_wrong", "_law_due"]) (sc := defScope s_law) rfl rfl (by decide +kernel)) ⟨fun _ _ _ _ _ _ _ => rfl, nofun⟩ (Or.inl ⟨rfl, rfl⟩) (by decide) (fun A outer s H E f c' hr => (pe_either (pe_calX C_unpack (pass_on (E := E) rfl rfl rfl rfl) hr (by decide) (by rfl) (pa_cons (pv 4) (pa_cons (pv 13) (pa_cons (pv 11) pa_nil)))) (pe_calX C_unpack_Vx (pass_on (E := E) rfl rfl rfl rfl) hr (by decide) (by rfl) (pa_cons (pv 4) (pa_cons (pv 13) (pa_cons (pv 11) pa_nil))))))) pe_str (nomark _)))))) pss_nil)
      (pss_cons (ps_set (i := 14) sc_law.nd rfl (Or.inl rfl) pe_str)
      (pss_cons (ps_if (PW.pt (pw_or (PW.pt (pw_and (pt_cmpR op_lt (pv 11) (pe_callB call_len_str (by rfl) T.b_len PySem.boot_len (pa_cons (pv 5) pa_nil)) (nomark _)) (pw_and1 (pt_cmpR op_gt (pe_callB call_len_str (by rfl) T.b_len PySem.boot_len (pa_cons (pv 1) pa_nil)) pe_int (nomark _))))) (pw_or1 (PW.pt (pw_and (pt_cmpR op_eq (pv 11) (pe_callB call_len_str (by rfl) T.b_len PySem.boot_len (pa_cons (pv 5) pa_nil)) (nomark _)) (pw_and1 (pt_cmpR op_eq (pv 10) pe_int (nomark _)))))))) (pss_one (ps_set (i := 14) sc_law.nd rfl (Or.inl rfl) pe_str)) pss_nil)
      (pss_cons (ps_if (PW.pt (pw_and (pt_cmpR op_gt (pv 11) (pe_callB call_len_str (by rfl) T.b_len PySem.boot_len (pa_cons (pv 5) pa_nil)) (nomark _)) (pw_and1 (pt_cmpR op_gt (pe_callB call_len_str (by rfl) T.b_len PySem.boot_len (pa_cons (pv 1) pa_nil)) pe_int (nomark _))))) (pss_one (ps_set (i := 14) sc_law.nd rfl (Or.inl rfl) pe_str)) pss_nil)
      (pss_cons (ps_if (PW.pt (pw_and (pt_cmpR op_eq (pv 10) pe_int (nomark _)) (pw_and1 (pt_cmpR op_eq (pv 11) (pe_callB call_len_str (by rfl) T.b_len PySem.boot_len (pa_cons (pv 5) pa_nil)) (nomark _))))) (pss_one (ps_set (i := 6) sc_law.nd rfl (Or.inr rfl) (pe_op op_add_str (pv 6) pe_str))) pss_nil)
      (pss_cut (ps_if (PW.pt (pw_and (pt_cmpR op_eq (pv 10) pe_int (nomark _)) (pw_and (pt_cmpR op_eq (pv 11) (pe_callB call_len_str (by rfl) T.b_len PySem.boot_len (pa_cons (pv 5) pa_nil)) (nomark _)) (pw_and1 (pt_cmpR op_ne (pv 6) pe_str (nomark _)))))) (pss_cons (ps_set (i := 6) sc_law.nd rfl (Or.inr rfl) (pe_slice sl_str (pv 6) po_none (po_some (pe_un un_neg pe_int))))
      (pss_one (ps_set (i := 14) sc_law.nd rfl (Or.inl rfl) pe_str))) pss_nil)
      (pss_one (ps_ret (pe_cmpR op_eq (pe_calLam (m := 11) (dk := true) C__law_told hr (by decide) (by rfl) TB rfl hm hu (lamL_at (N := ["_law_script", "_law_signs", "_law_size", "_law_cap", "_law_book", "_law_text", "_law_bits", "_law_odd", "_law_sign", "_law_at", "_law_way", "_law_count", "_law_more", "_law_wrong", "_law_due"]) (sc := defScope s_law) rfl rfl (by decide +kernel)) ⟨nofun, fun _ => ⟨"_law_three", rfl, fun _ _ _ _ _ _ _ => ⟨_, rfl, fun _ => rfl⟩⟩⟩ (Or.inr ⟨rfl, _, _, rfl⟩) (by decide) (fun A outer s H E f c' hr => (pe_either (pe_calX C_unpack (pass_on (E := E) rfl rfl rfl rfl) hr (by decide) (by rfl) (pa_cons (pv 4) (pa_cons (pv 6) (pa_cons (pv 11) pa_nil)))) (pe_calX C_unpack_Vx (pass_on (E := E) rfl rfl rfl rfl) hr (by decide) (by rfl) (pa_cons (pv 4) (pa_cons (pv 6) (pa_cons (pv 11) pa_nil))))))) (pv 14) (nomark _)))))))))))))))))))))))), ?_⟩
  have hB := bookOf_ok ns
  refine q_asg3 (eu_cal (ea_cons (ev_var rfl) ea_nil) fun H1 e1 Q E q => ⟨a, ns, rfl, ex_l e1 hs, q⟩) fun H1 e1 => ?_
  generalize bookOf ns = B at hB ⊢
  obtain ⟨⟨hs1, hs2, hs3, hs4⟩, hz1, hz2, hc1, hc2⟩ := id hB
  refine q_book (B := B) (ea_cons (ev_var rfl) (ea_cons (ev_var rfl) (ea_cons (ev_var rfl) ea_nil))) hB fun b H2 hb e2 b2 => ?_
  have ssl : (tx B.ss).length ≤ sizeLine := by rw [tx_len]; exact sz_of (by omega)
  have hsH := ex_l (e1.trans e2) hs
  have T2 := hT.ext (e1.trans e2)
  have cl : ∀ {H'} (j : Nat), Ex H2 H' → SpV (sp_cell K) [.ref a, .int (j : Int)] H' (.int (cel ns j)) := fun j e => spv_cell (ex_l e hsH) rfl
  have n1 := Int.emod_nonneg (cel ns 4) (show (13 : Int) ≠ 0 by decide)
  have n2 := Int.emod_lt_of_pos (cel ns 4) (show (0 : Int) < 13 by decide)
  refine q_asg (ev_cal (ea_cons (ev_var rfl) (ea_cons ev_c (ea_cons (ev_var rfl) (ea_cons (ev_is (w := .int (((cel ns 4 % 13).toNat : Nat) : Int)) (ev_op (ev_cal (ea_cons (ev_var rfl) (ea_cons ev_c ea_nil)) (cl 4 (Ex.refl _))) ev_c (rv_mod (by decide))) (congrArg V.int (by omega))) ea_nil)))) (spv fun H6 e6 Q E q => ⟨a, ns, 5, (cel ns 4 % 13).toNat, B.ss, rfl, ex_l e6 hsH, by omega, hs1, by omega, q⟩)) fun H3 e3 => ?_
  have htm := textOf_mem (ns := ns) (f := 5) (n := (cel ns 4 % 13).toNat) hs1
  have htl : (textOf ns 5 B.ss (cel ns 4 % 13).toNat).length ≤ 12 := by rw [textOf_len]; omega
  generalize textOf ns 5 B.ss (cel ns 4 % 13).toNat = ts at htm htl ⊢
  have tsl : (tx ts).length ≤ sizeLine := by rw [tx_len]; exact sz_of (by omega)
  refine q_asg (ev_cal (ea_cons (ev_var rfl) (ea_cons (ev_var rfl) ea_nil)) (spv_pack (b2.ex e3) hB htm (by omega))) fun H4 e4 => ?_
  have hO := LS.start_ok hB
  obtain ⟨pb1, pb2⟩ := packF_ok hB ts _ hO htm
  refine q_asg (ev_is (w := .str (tx [10])) ev_c (congrArg V.str (by decide +kernel))) fun H5 e5 => ?_
  have e25 := (e3.trans e4).trans e5
  have n10 : 10 ∉ B.ss := fun z => by have := hs4 _ z; omega
  have n9 : 9 ∉ B.ss := fun z => by have := hs4 _ z; omega
  refine q_forS (l := signsOf (cel ns 20) 41) (ev_cal (ea_cons (ev_cal (ea_cons (ev_var rfl) (ea_cons ev_c ea_nil)) (cl 20 e25)) (ea_cons ev_c ea_nil)) (spv fun _ _ Q E q => ⟨_, 41, rfl, by decide, q⟩)) (fun i σ' H' => Ex H5 H' ∧ ∃ (odd : Nat) (y8 : Option V), odd ∉ B.ss ∧ σ' = [some (.ref a), some (.str (tx B.ss)), some (.int (B.size : Int)), some (.int B.cap), some (.ref b), some (.str (tx ts)), some (.str (tx (packF B (LS.start B) ts))), some (.str (tx [odd])), y8, none, none, none, none, none, none]) (fun H6 e6 => ⟨e6, 10, none, n10, rfl⟩) (fun i c σ' H' hc p => ?_) (fun σ6 H6 p => ?_)
  · obtain ⟨e6, odd, y8, ho, rfl⟩ := p
    refine s_when (b := !decide (c ∈ B.ss)) (et_test (ev_op (ev_var rfl) (ev_var rfl) (rv_niS (c := c) (l := B.ss)))) (fun hx H7 e7 => ?_) (fun hx H7 e7 => ⟨e6.trans e7, odd, _, ho, rfl⟩)
    exact s_asg (ev_var rfl) fun H8 e8 => ⟨(e6.trans e7).trans e8, c, _, by simpa using hx, rfl⟩
  obtain ⟨e6, odd, y8, ho, rfl⟩ := p
  have e26 := e25.trans e6
  obtain ⟨odd2, ho2, hat⟩ := odds_at (P := fun c => c ∉ B.ss) ho n10 n9 (Int.emod_nonneg (cel ns 26) (show (4 : Int) ≠ 0 by decide)) (Int.emod_lt_of_pos (cel ns 26) (show (0 : Int) < 4 by decide))
  refine q_asg (ev_ixD (el_lst (ea_cons (ev_var rfl) (ea_cons (ev_var rfl) (ea_cons ev_c (ea_cons ev_c ea_nil)))) (by show 4 ≤ 100000; decide)) (fun H7 e7 => ev_op (ev_cal (ea_cons (ev_var rfl) (ea_cons ev_c ea_nil)) (cl 26 (e26.trans e7))) ev_c (rv_mod (by decide))) hat) fun H7 e7 => ?_
  have e27 := e26.trans e7
  have ga1 := Int.emod_nonneg (cel ns 21) (show ((packF B (LS.start B) ts).length : Int) + 1 ≠ 0 by omega)
  refine q_asg (v := .int (((cel ns 21 % (((packF B (LS.start B) ts).length : Int) + 1)).toNat : Nat) : Int)) (ev_is (ev_op (ev_cal (ea_cons (ev_var rfl) (ea_cons ev_c ea_nil)) (cl 21 e27)) (ev_op (ev_is (ev_lenZ (ev_var rfl) (by rw [tx_len]; exact sz_of (by omega))) (by rw [tx_len])) ev_c rv_I0) (rv_mod (by omega))) (congrArg V.int (by omega))) fun H8 e8 => ?_
  generalize (cel ns 21 % (((packF B (LS.start B) ts).length : Int) + 1)).toNat = at_
  have e28 := e27.trans e8
  refine q_asg (ev_op (ev_cal (ea_cons (ev_var rfl) (ea_cons ev_c ea_nil)) (cl 22 e28)) ev_c (rv_mod (by decide))) fun H9 e9 => ?_
  generalize cel ns 22 % 6 = way
  have e29 := e28.trans e9
  have b9 := b2.ex e29
  have T9 := T2.ext e29
  refine q_whenG (w := .str "signTrue") (eg_told (D' := "BadSign") (G := fun H' => ∃ H1, LamX.ExtN H9 H1 ∧ LamX.Tabs TL H1 ∧ Ex H1 H') T9 (by decide) fun H10 N10 T10 E Q hE => ?_) (fun _ _ => ev_c) rfl tdS fun H11 H12 g11 e12' => ?_
  · exact er_cal (ea_cons (ev_var rfl) (ea_cons (ev_addT (ev_addT (ev_toS (n := at_) (ev_var rfl) (ev_var rfl) (by omega)) (ev_var rfl) (by rw [List.length_take]; show _ + 1 ≤ _; omega)) (ev_fromS (i := at_) (ev_var rfl) (ev_var rfl) (by omega)) (by rw [List.length_append, List.length_take, List.length_drop]; show _ + 1 + _ ≤ _; omega)) ea_nil)) fun H11 e11 => ⟨b, B, _, rfl, (b9.exN N10).ex e11, hB, ⟨odd2, by simp, ho2⟩, fun H12 e12 => hE H12 ⟨H10, N10, T10, e11.trans e12⟩⟩
  obtain ⟨H', ⟨H10, N10, T10, e10⟩, e11⟩ := g11
  have N12 : LamX.ExtN H9 H12 := N10.trans (LamX.ExtN.of ((e10.trans e11).trans e12'))
  have b12 := b9.exN N12
  have T12 := T10.ext ((e10.trans e11).trans e12')
  have hs12 : SqL K H12 a (ns.map V.int) := sql_exN (ex_l e29 hsH) N12
  clear N10 T10 e10 e11 e12' N12 b9 T9
  refine q_notG (G := fun H' => LamX.ExtN H12 H' ∧ LamX.Tabs TL H') (fun Q q => er_cal (ea_cons (ev_var rfl) (ea_cons (ev_var rfl) (ea_cons (ev_var rfl) (ea_cons (ev_var rfl) (ea_cons (ev_op (ev_cal (ea_cons (ev_var rfl) (ea_cons ev_c ea_nil)) (spv_cell (j := 25) hs12 rfl)) ev_c (rv_mod (by decide))) ea_nil))))) fun H13 e13 => ⟨b, B, ts, odd2, _, rfl, b12.ex e13, hB, T12.ext e13, htm, by omega, ho2, fun H14 n14 T14 => q H14 ⟨(LamX.ExtN.of e13).trans n14, T14⟩⟩) fun H14 g14 => ?_
  obtain ⟨N14, T14⟩ := g14
  have b14 := b12.exN N14
  have hs14 := sql_exN hs12 N14
  clear N14 b12 T12 hs12
  have emp : PySem.Str.ofString "" = tx [] := by decide +kernel
  refine q_when (b := false) (et_or (a := false) (et_is (et_test (ev_op (ev_unpLeft T (ea_cons (ev_var rfl) (ea_cons ev_c ea_nil)) b14 hB) ev_c (rv_ne rfl))) rfl) fun _ => et_is (et_test (ev_op (ev_unpNone (ea_cons (ev_var rfl) (ea_cons ev_c ea_nil)) b14 hB) ev_c (rv_ne rfl))) (by rw [decide_eq_true (congrArg V.str emp.symm)]; rfl)) (fun hx => nomatch hx) (fun _ H15 e15 => ?_)
  have nl : ∀ {σ' H'}, σ'[5]? = some (some (.str (tx ts))) → Ev (tCB (fun xs H Q => ∃ x, xs = [.str x] ∧ x.length ≤ sizeLine ∧ Q (.int (x.length : Nat)) H) (tCons (tVar 5) tNil)) σ' H' (.int (ts.length : Int)) := fun h => ev_is (ev_lenZ (ev_var h) tsl) (by rw [tx_len])
  have nS : ∀ {σ' H'}, σ'[1]? = some (some (.str (tx B.ss))) → Ev (tCB (fun xs H Q => ∃ x, xs = [.str x] ∧ x.length ≤ sizeLine ∧ Q (.int (x.length : Nat)) H) (tCons (tVar 1) tNil)) σ' H' (.int (B.ss.length : Int)) := fun h => ev_is (ev_lenZ (ev_var h) ssl) (by rw [tx_len])
  refine q_asg (v := (cntL (ts.length : Int)).getD (cel ns 23 % 9).toNat .non) (ev_cal (ea_cons (ev_cal (ea_cons (ev_var rfl) (ea_cons ev_c ea_nil)) (spv_cell (j := 23) (ex_l e15 hs14) rfl)) (ea_cons (nl rfl) ea_nil)) (spv fun H16 e16 Q E q => ⟨_, _, rfl, q⟩)) fun H16 e16 => ?_
  have hcs := cntL_at (cel ns 23) (ts.length : Int)
  generalize (cntL (ts.length : Int)).getD (cel ns 23 % 9).toNat .non = x at hcs ⊢
  refine q_when (b := !whV x 0 2000) (et_not (et_B (ev_cal (ea_cons (ev_var rfl) ea_nil) (spv fun H17 e17 Q E q => ⟨x, rfl, hcs, q⟩)))) (fun hx H17 e17 => ?_) (fun hx H17 e17 => ?_)
  · have hw : whV x 0 2000 = false := by simpa using hx
    have T17 := T14.ext ((e15.trans e16).trans e17)
    refine q_whenG (w := .str "countTrue") (eg_told (D' := "BadCount") (G := fun H' => ∃ H1, LamX.ExtN H17 H1 ∧ LamX.Tabs TL H1 ∧ Ex H1 H') T17 (by decide) fun H18 N18 T18 E Q hE => ?_) (fun _ _ => ev_c) rfl tdC fun H19 H20 g19 e20 => ?_
    · exact er_mkr (ea_cons (ev_var rfl) (ea_cons (ev_var rfl) ea_nil)) fun H19 u dx e19 hu hd hn => ⟨u, _, x, rfl, hcs, hw, fun H20 e20 => hE H20 ⟨H18, N18, T18, e19.trans (ex_made hu hd (ExS.of e20))⟩⟩
    obtain ⟨H', ⟨H18, N18, T18, e18⟩, e19⟩ := g19
    refine s_retG (v := .str (toldW "BadCount")) (w := .str "countTrue") (eg_told (D' := "BadCount") (G := fun _ => True) (T18.ext ((e18.trans e19).trans e20)) (by decide) fun H21 N21 T21 E Q hE => ?_) (fun _ _ => ev_c) rfl tdC fun _ H _ _ => q H
    exact Or.inr (er_cal (ea_cons (ev_var rfl) (ea_cons (ev_addT (ev_var rfl) (ev_is (w := .str (tx [120])) ev_c (congrArg V.str (by decide +kernel))) (by show _ + 1 ≤ _; omega)) (ea_cons (ev_var rfl) ea_nil))) fun H22 e22 => ⟨_, _, x, rfl, hcs, hw, fun H23 e23 => hE H23 True.intro⟩)
  have hw : whV x 0 2000 = true := by simpa using hx
  obtain ⟨mi, rfl, m1, m2⟩ := whV_int hw
  obtain ⟨m, rfl⟩ : ∃ m : Nat, mi = (m : Int) := ⟨mi.toNat, by omega⟩
  have m4 : m ≤ 2000 := by omega
  have e47 := (e15.trans e16).trans e17
  have T17 := T14.ext e47
  have b17 := b14.ex e47
  refine q_when (b := decide (way = 1)) (et_is (et_test (ev_op (ev_var rfl) ev_c (rv_eq rfl))) (decide_eq_decide.mpr ⟨V.int.inj, congrArg V.int⟩)) (fun _ H18 e18 => ?_) (fun _ H18 e18 => ?_)
  · have w1 := Int.emod_nonneg (cel ns 24) (show (8 : Int) ≠ 0 by decide)
    have w2 := Int.emod_lt_of_pos (cel ns 24) (show (0 : Int) < 8 by decide)
    have hwr := mores_no ⟨(cel ns 24 % 8).toNat, by omega⟩
    have hwat := mores_at w1 w2
    simp only at hwr
    generalize mores.getD (cel ns 24 % 8).toNat 0 = wr at hwr hwat
    refine q_asg (ev_ixD (el_lst (ea_cons ev_c (ea_cons ev_c (ea_cons ev_c (ea_cons ev_c (ea_cons ev_c (ea_cons ev_c (ea_cons ev_c (ea_cons ev_c ea_nil)))))))) (by show 8 ≤ 100000; decide)) (fun H19 e19 => ev_op (ev_cal (ea_cons (ev_var rfl) (ea_cons ev_c ea_nil)) (spv_cell (j := 24) (ex_l ((e47.trans e18).trans e19) hs14) rfl)) ev_c (rv_mod (by decide))) hwat) fun H19 e19 => ?_
    refine q_asg (ev_addT (ev_addT (ev_toS (n := at_) (ev_var rfl) (ev_var rfl) (by omega)) (ev_var rfl) (by rw [List.length_take]; show _ + 1 ≤ _; omega)) (ev_fromS (i := at_) (ev_var rfl) (ev_var rfl) (by omega)) (by rw [List.length_append, List.length_take, List.length_drop]; show _ + 1 + _ ≤ _; omega)) fun H20 e20 => ?_
    have e70 := (e18.trans e19).trans e20
    refine s_retG (v := .str (toldW "BadBit")) (w := .str "bitTrue") (eg_told (D' := "BadBit") (G := fun _ => True) (T17.ext e70) (by decide) fun H21 N21 T21 E Q hE => ?_) (fun _ _ => ev_c) rfl tdB fun _ H _ _ => q H
    exact Or.inl (er_cal (ea_cons (ev_var rfl) (ea_cons (ev_var rfl) (ea_cons (ev_var rfl) ea_nil))) fun H22 e22 => ⟨b, B, _, _, .bad "BadBit", rfl, ((b17.ex e70).exN N21).ex e22, hB, by rw [List.length_append, List.length_append, List.length_take, List.length_drop]; show _ + 1 + _ ≤ _; omega, .inr ⟨m, rfl, m4, .inl ⟨bits_bad (c := wr) (by simp) hwr, rfl⟩⟩, fun H23 e23 => hE H23 True.intro⟩)
  obtain ⟨o, hU, hG, hD⟩ := last_to (m := m) hB htm (by omega) m4 way
  have hPl : (lastBits (packF B (LS.start B) ts) ts.length m way).length ≤ 1000 := by
    unfold lastBits
    split
    · rw [List.length_append]; show _ + 1 ≤ _; omega
    · split
      · rw [List.length_dropLast]; omega
      · omega
  have T18 := T17.ext e18
  have b18 := b17.ex e18
  clear T17 b17 T14 b14 hs14
  generalize hP : packF B (LS.start B) ts = P at pb2 hU hD hPl ⊢
  have tLt : decide ((m : Int) < (ts.length : Int)) = decide (m < ts.length) := decide_eq_decide.mpr (by omega)
  have tGt : decide ((ts.length : Int) < (m : Int)) = decide (ts.length < m) := decide_eq_decide.mpr (by omega)
  have tEq : decide (V.int (m : Int) = V.int (ts.length : Int)) = decide (m = ts.length) := decide_eq_decide.mpr ⟨fun z => by have := V.int.inj z; omega, fun z => by rw [z]⟩
  have tMany : decide ((1 : Int) < (B.ss.length : Int)) = decide (1 < B.ss.length) := decide_eq_decide.mpr (by omega)
  have tWay : ∀ k : Int, decide (V.int way = V.int k) = decide (way = k) := fun k => decide_eq_decide.mpr ⟨V.int.inj, congrArg V.int⟩
  refine q_asg ev_c fun H19 e19 => ?_
  refine q_ifAsg (b := decide ((m < ts.length ∧ 1 < B.ss.length) ∨ (m = ts.length ∧ way = 2))) (v := .str (if (m < ts.length ∧ 1 < B.ss.length) ∨ (m = ts.length ∧ way = 2) then "looseTrue" else ""))
    (et_is (et_or (et_and (et_is (et_test (ev_op (ev_var rfl) (nl rfl) rv_I0)) tLt) fun _ => et_is (et_test (ev_op (nS rfl) ev_c rv_I0)) tMany) fun _ => et_and (et_is (et_test (ev_op (ev_var rfl) (nl rfl) (rv_eq rfl))) tEq) fun _ => et_is (et_test (ev_op (ev_var rfl) ev_c (rv_eq rfl))) (tWay 2)) (by simp only [Bool.decide_or, Bool.decide_and]))
    (fun hb => ev_is ev_c (by rw [if_pos (of_decide_eq_true hb)])) (fun hb => by rw [if_neg (of_decide_eq_false hb)]; rfl) fun H20 e20 => ?_
  refine q_ifAsg (b := decide (ts.length < m ∧ 1 < B.ss.length)) (v := .str (if ts.length < m ∧ 1 < B.ss.length then "shortTrue" else if (m < ts.length ∧ 1 < B.ss.length) ∨ (m = ts.length ∧ way = 2) then "looseTrue" else ""))
    (et_is (et_and (et_is (et_test (ev_op (ev_var rfl) (nl rfl) rv_I0)) tGt) fun _ => et_is (et_test (ev_op (nS rfl) ev_c rv_I0)) tMany) (by simp only [Bool.decide_and]))
    (fun hb => ev_is ev_c (by rw [if_pos (of_decide_eq_true hb)])) (fun hb => by rw [if_neg (of_decide_eq_false hb)]; rfl) fun H21 e21 => ?_
  refine q_ifAsg (b := decide (way = 2 ∧ m = ts.length)) (v := .str (tx (if m = ts.length ∧ way = 2 then P ++ [48] else P)))
    (et_is (et_and (et_is (et_test (ev_op (ev_var rfl) ev_c (rv_eq rfl))) (tWay 2)) fun _ => et_is (et_test (ev_op (ev_var rfl) (nl rfl) (rv_eq rfl))) tEq) (by simp only [Bool.decide_and]))
    (fun hb => by
      have h := of_decide_eq_true hb
      rw [if_pos (show m = ts.length ∧ way = 2 from ⟨h.2, h.1⟩)]
      exact ev_addT (ev_var rfl) (ev_is (w := .str (tx [48])) ev_c (congrArg V.str (by decide +kernel))) (by show _ + 1 ≤ _; omega)) (fun hb => by
      have h := of_decide_eq_false hb
      rw [if_neg (show ¬ (m = ts.length ∧ way = 2) from fun z => h ⟨z.2, z.1⟩)]
      rfl) fun H22 e22 => ?_
  have e82 := ((e19.trans e20).trans e21).trans e22
  refine q_cut (M := fun σ' H' => Ex H18 H' ∧ σ' = [some (.ref a), some (.str (tx B.ss)), some (.int (B.size : Int)), some (.int B.cap), some (.ref b), some (.str (tx ts)), some (.str (tx (lastBits P ts.length m way))), some (.str (tx [odd2])), y8, some (.int (at_ : Int)), some (.int way), some (.int (m : Int)), none, none, some (.str (lastDue P B.ss.length ts.length m way))]) ?_ fun σ23 H23 mid => ?_
  · refine s_when (b := decide (way = 3 ∧ m = ts.length ∧ P ≠ [])) (et_is (et_and (et_is (et_test (ev_op (ev_var rfl) ev_c (rv_eq rfl))) (tWay 3)) fun hw3 => et_and (et_is (et_test (ev_op (ev_var rfl) (nl rfl) (rv_eq rfl))) tEq) fun hm3 => et_is (et_test (ev_op (ev_var rfl) ev_c (rv_ne rfl))) (b := decide (P ≠ [])) ?_) (by simp only [Bool.decide_and])) (fun hx H23 e23 => ?_) (fun hx H23 e23 => ⟨e82.trans e23, ?_⟩)
    · have h3 := of_decide_eq_true hw3
      rw [if_neg (show ¬ (m = ts.length ∧ way = 2) by omega)]
      cases P with
      | nil => rw [decide_eq_true (congrArg V.str emp.symm)]; rfl
      | cons p ps => rfl
    · obtain ⟨h3, hm3, hne⟩ := of_decide_eq_true hx
      refine q_asg (v := .str (tx P.dropLast)) (ev_is (ev_lessS (l := if m = ts.length ∧ way = 2 then P ++ [48] else P) (ev_var rfl) (ev_is (ev_neg ev_c) rfl) (by rw [if_neg (show ¬ (m = ts.length ∧ way = 2) by omega)]; omega)) (by rw [if_neg (show ¬ (m = ts.length ∧ way = 2) by omega)])) fun H24 e24 => ?_
      refine s_asg ev_c fun H25 e25 => ⟨((e82.trans e23).trans e24).trans e25, ?_⟩
      have eB : lastBits P ts.length m way = P.dropLast := by unfold lastBits; rw [if_neg (show ¬ (m = ts.length ∧ way = 2) by omega), if_pos (show m = ts.length ∧ way = 3 ∧ P ≠ [] from ⟨hm3, h3, hne⟩)]
      have eD : lastDue P B.ss.length ts.length m way = "shortTrue" := by unfold lastDue; rw [if_pos (show m = ts.length ∧ way = 3 ∧ P ≠ [] from ⟨hm3, h3, hne⟩)]
      rw [eB, eD]
      rfl
    · have h := of_decide_eq_false hx
      have h2 : ¬ (m = ts.length ∧ way = 3 ∧ P ≠ []) := fun z => h ⟨z.2.1, z.1, z.2.2⟩
      unfold lastBits lastDue
      rw [if_neg h2, if_neg h2]
      rfl
  obtain ⟨e83, rfl⟩ := mid
  refine s_retG (v := .str (outW o)) (w := .str (lastDue P B.ss.length ts.length m way)) (eg_tell (T18.ext e83) hG fun H24 N24 T24 E Q hR => Or.inl (er_cal (ea_cons (ev_var rfl) (ea_cons (ev_var rfl) (ea_cons (ev_var rfl) ea_nil))) fun H25 e25 => ⟨b, B, _, _, o, rfl, ((b18.ex e83).exN N24).ex e25, hB, by omega, hU, fun H26 e26 => hR H26 (e25.trans e26)⟩)) (fun _ _ => ev_var rfl) rfl (congrArg V.str hD) fun _ H _ _ => q H
end
theorem all_mk {l : PySem.W.OpenLaw} {w : World} {K : PySem.W.Frag} {h : Heap} {mg : Str → Option Value} {fa f0 f1 f2 f3 f4 f5 f6 f7 f8 f9 f10 f11 f12 f13 f14 f15 f16 f17 f18 f19 f20 f21 f22 f23 f24 f25 f26 f27 f28 f29 f30 f31 f32 f33 f34 f35 f36 f37 f38 f39 f40 f41 f42 f43 f44 f45 : Addr} (X : K.In h) (G : h.Ns mainGlobals mg) (hfa : mg "law" = some (.ref fa))
    {ca_BadBit ca_BadBook ca_BadCount ca_BadLine ca_BadShares ca_BadSign ca_Book ca_Learner ca_Loose ca_PackError ca_Packer ca_Short ca_Unpacker : Addr}
    {tk_GREATEST_CAP tk_GREATEST_SHARE tk_LONGEST_BLOCK tk_LONGEST_TEXT tk_MOST_SHARES : Tok}
    {od0 an0 od1 an1 od2 an2 od3 an3 od4 an4 od5 an5 od6 an6 od7 an7 od8 an8 od9 an9 od10 an10 od11 an11 od12 an12 od13 an13 od14 an14 od15 an15 od16 an16 od17 an17 od18 an18 od19 an19 od20 an20 od21 an21 od22 an22 od23 an23 od24 an24 od25 an25 od26 an26 od27 an27 od28 an28 od29 an29 od30 an30 od31 an31 od32 an32 od33 an33 od34 an34 od35 an35 od36 an36 od37 an37 od38 an38 od39 an39 od40 an40 od41 an41 od42 an42 od43 an43 od44 an44 od45 an45 : Option Addr} {sl0 sl1 sl2 sl3 sl4 sl5 sl6 sl7 sl8 sl9 sl10 sl11 sl12 sl13 sl14 sl15 sl16 sl17 sl18 sl19 sl20 sl21 sl22 sl23 sl24 sl25 sl26 sl27 sl28 sl29 sl30 sl31 sl32 sl33 sl34 sl35 sl36 sl37 sl38 sl39 sl40 sl41 sl42 sl43 sl44 sl45 : Array (Option Value)} {oc0 kV0 dc0 pm0 cd0 ct0 oc1 kV1 dc1 pm1 cd1 ct1 oc2 kV2 dc2 pm2 cd2 ct2 oc3 kV3 dc3 pm3 cd3 ct3 oc4 kV4 dc4 pm4 cd4 ct4 oc5 kV5 dc5 pm5 cd5 ct5 oc6 kV6 dc6 pm6 cd6 ct6 oc7 kV7 dc7 pm7 cd7 ct7 oc8 kV8 dc8 pm8 cd8 ct8 oc9 kV9 dc9 pm9 cd9 ct9 oc10 kV10 dc10 pm10 cd10 ct10 oc11 kV11 dc11 pm11 cd11 ct11 oc12 kV12 dc12 pm12 cd12 ct12 oc13 kV13 dc13 pm13 cd13 ct13 oc14 kV14 dc14 pm14 cd14 ct14 oc15 kV15 dc15 pm15 cd15 ct15 oc16 kV16 dc16 pm16 cd16 ct16 oc17 kV17 dc17 pm17 cd17 ct17 oc18 kV18 dc18 pm18 cd18 ct18 oc19 kV19 dc19 pm19 cd19 ct19 oc20 kV20 dc20 pm20 cd20 ct20 oc21 kV21 dc21 pm21 cd21 ct21 oc22 kV22 dc22 pm22 cd22 ct22 oc23 kV23 dc23 pm23 cd23 ct23 oc24 kV24 dc24 pm24 cd24 ct24 oc25 kV25 dc25 pm25 cd25 ct25 oc26 kV26 dc26 pm26 cd26 ct26 oc27 kV27 dc27 pm27 cd27 ct27 oc28 kV28 dc28 pm28 cd28 ct28 oc29 kV29 dc29 pm29 cd29 ct29 oc30 kV30 dc30 pm30 cd30 ct30 oc31 kV31 dc31 pm31 cd31 ct31 oc32 kV32 dc32 pm32 cd32 ct32 oc33 kV33 dc33 pm33 cd33 ct33 oc34 kV34 dc34 pm34 cd34 ct34 oc35 kV35 dc35 pm35 cd35 ct35 oc36 kV36 dc36 pm36 cd36 ct36 oc37 kV37 dc37 pm37 cd37 ct37 oc38 kV38 dc38 pm38 cd38 ct38 oc39 kV39 dc39 pm39 cd39 ct39 oc40 kV40 dc40 pm40 cd40 ct40 oc41 kV41 dc41 pm41 cd41 ct41 oc42 kV42 dc42 pm42 cd42 ct42 oc43 kV43 dc43 pm43 cd43 ct43 oc44 kV44 dc44 pm44 cd44 ct44 oc45 kV45 dc45 pm45 cd45 ct45 : Value}
    {lc42 lP42 : Addr} {le42 : Value} {ld42 : Option Addr} {lv42 : Array Value} {ls42 : Array (Option Value)}
    {lc45 lP45 : Addr} {le45 : Value} {ld45 : Option Addr} {lv45 : Array Value} {ls45 : Array (Option Value)}
    (zc_BadBit : PySem.W.nsIn K mainGlobals "BadBit" = some (some (.ref ca_BadBit)))
    (zc_BadBook : PySem.W.nsIn K mainGlobals "BadBook" = some (some (.ref ca_BadBook)))
    (zc_BadCount : PySem.W.nsIn K mainGlobals "BadCount" = some (some (.ref ca_BadCount)))
    (zc_BadLine : PySem.W.nsIn K mainGlobals "BadLine" = some (some (.ref ca_BadLine)))
    (zc_BadShares : PySem.W.nsIn K mainGlobals "BadShares" = some (some (.ref ca_BadShares)))
    (zc_BadSign : PySem.W.nsIn K mainGlobals "BadSign" = some (some (.ref ca_BadSign)))
    (zc_Book : PySem.W.nsIn K mainGlobals "Book" = some (some (.ref ca_Book)))
    (zc_Learner : PySem.W.nsIn K mainGlobals "Learner" = some (some (.ref ca_Learner)))
    (zc_Loose : PySem.W.nsIn K mainGlobals "Loose" = some (some (.ref ca_Loose)))
    (zc_PackError : PySem.W.nsIn K mainGlobals "PackError" = some (some (.ref ca_PackError)))
    (zc_Packer : PySem.W.nsIn K mainGlobals "Packer" = some (some (.ref ca_Packer)))
    (zc_Short : PySem.W.nsIn K mainGlobals "Short" = some (some (.ref ca_Short)))
    (zc_Unpacker : PySem.W.nsIn K mainGlobals "Unpacker" = some (some (.ref ca_Unpacker)))
    (a0 : PySem.W.nsIn K mainGlobals "is_whole" = some (some (.ref f0))) (l0 : K.lookup f0 = some ⟨oc0, od0, .func (PySem.W.fnOf "is_whole" "is_whole" (defArgs s_is_whole) (defBody s_is_whole) (defScope s_is_whole) .none kV0 dc0 pm0 an0 cd0 ct0), sl0⟩) (c0 : PySem.W.codeIn K cd0 "is_whole" = true) (k0 : PySem.W.keepIn K (.ref f0) = true)
    (a1 : PySem.W.nsIn K mainGlobals "is_whole" = some (some (.ref f1))) (l1 : K.lookup f1 = some ⟨oc1, od1, .func (PySem.W.fnOf "is_whole" "is_whole" (defArgs s_is_whole) (defBody s_is_whole) (defScope s_is_whole) .none kV1 dc1 pm1 an1 cd1 ct1), sl1⟩) (c1 : PySem.W.codeIn K cd1 "is_whole" = true) (k1 : PySem.W.keepIn K (.ref f1) = true)
    (a2 : PySem.W.nsIn K mainGlobals "check_shares" = some (some (.ref f2))) (l2 : K.lookup f2 = some ⟨oc2, od2, .func (PySem.W.fnOf "check_shares" "check_shares" (defArgs s_check_shares) (defBody s_check_shares) (defScope s_check_shares) .none kV2 dc2 pm2 an2 cd2 ct2), sl2⟩) (c2 : PySem.W.codeIn K cd2 "check_shares" = true) (k2 : PySem.W.keepIn K (.ref f2) = true)
    (a3 : PySem.W.nsIn K mainGlobals "check_counts" = some (some (.ref f3))) (l3 : K.lookup f3 = some ⟨oc3, od3, .func (PySem.W.fnOf "check_counts" "check_counts" (defArgs s_check_counts) (defBody s_check_counts) (defScope s_check_counts) .none kV3 dc3 pm3 an3 cd3 ct3), sl3⟩) (c3 : PySem.W.codeIn K cd3 "check_counts" = true) (k3 : PySem.W.keepIn K (.ref f3) = true)
    (a4 : PySem.W.nsIn K mainGlobals "check_cap" = some (some (.ref f4))) (l4 : K.lookup f4 = some ⟨oc4, od4, .func (PySem.W.fnOf "check_cap" "check_cap" (defArgs s_check_cap) (defBody s_check_cap) (defScope s_check_cap) .none kV4 dc4 pm4 an4 cd4 ct4), sl4⟩) (c4 : PySem.W.codeIn K cd4 "check_cap" = true) (k4 : PySem.W.keepIn K (.ref f4) = true)
    (a5 : PySem.W.nsIn K mainGlobals "learnt" = some (some (.ref f5))) (l5 : K.lookup f5 = some ⟨oc5, od5, .func (PySem.W.fnOf "learnt" "learnt" (defArgs s_learnt) (defBody s_learnt) (defScope s_learnt) .none kV5 dc5 pm5 an5 cd5 ct5), sl5⟩) (c5 : PySem.W.codeIn K cd5 "learnt" = true) (k5 : PySem.W.keepIn K (.ref f5) = true)
    (a6 : PySem.W.nsIn K mainGlobals "pairs" = some (some (.ref f6))) (l6 : K.lookup f6 = some ⟨oc6, od6, .func (PySem.W.fnOf "pairs" "pairs" (defArgs s_pairs) (defBody s_pairs) (defScope s_pairs) .none kV6 dc6 pm6 an6 cd6 ct6), sl6⟩) (c6 : PySem.W.codeIn K cd6 "pairs" = true) (k6 : PySem.W.keepIn K (.ref f6) = true)
    (a7 : PySem.W.nsIn K mainGlobals "codes" = some (some (.ref f7))) (l7 : K.lookup f7 = some ⟨oc7, od7, .func (PySem.W.fnOf "codes" "codes" (defArgs s_codes) (defBody s_codes) (defScope s_codes) .none kV7 dc7 pm7 an7 cd7 ct7), sl7⟩) (c7 : PySem.W.codeIn K cd7 "codes" = true) (k7 : PySem.W.keepIn K (.ref f7) = true)
    (a8 : PySem.W.nsIn K mainGlobals "counted" = some (some (.ref f8))) (l8 : K.lookup f8 = some ⟨oc8, od8, .func (PySem.W.fnOf "counted" "counted" (defArgs s_counted) (defBody s_counted) (defScope s_counted) .none kV8 dc8 pm8 an8 cd8 ct8), sl8⟩) (c8 : PySem.W.codeIn K cd8 "counted" = true) (k8 : PySem.W.keepIn K (.ref f8) = true)
    (a9 : PySem.W.nsIn K mainGlobals "_law_cell_at" = some (some (.ref f9))) (l9 : K.lookup f9 = some ⟨oc9, od9, .func (PySem.W.fnOf "_law_cell_at" "_law_cell_at" (defArgs s_cell_at) (defBody s_cell_at) (defScope s_cell_at) .none kV9 dc9 pm9 an9 cd9 ct9), sl9⟩) (c9 : PySem.W.codeIn K cd9 "_law_cell_at" = true) (k9 : PySem.W.keepIn K (.ref f9) = true)
    (a10 : PySem.W.nsIn K mainGlobals "_law_many_by" = some (some (.ref f10))) (l10 : K.lookup f10 = some ⟨oc10, od10, .func (PySem.W.fnOf "_law_many_by" "_law_many_by" (defArgs s_many_by) (defBody s_many_by) (defScope s_many_by) .none kV10 dc10 pm10 an10 cd10 ct10), sl10⟩) (c10 : PySem.W.codeIn K cd10 "_law_many_by" = true) (k10 : PySem.W.keepIn K (.ref f10) = true)
    (a11 : PySem.W.nsIn K mainGlobals "_law_signs_by" = some (some (.ref f11))) (l11 : K.lookup f11 = some ⟨oc11, od11, .func (PySem.W.fnOf "_law_signs_by" "_law_signs_by" (defArgs s_signs_by) (defBody s_signs_by) (defScope s_signs_by) .none kV11 dc11 pm11 an11 cd11 ct11), sl11⟩) (c11 : PySem.W.codeIn K cd11 "_law_signs_by" = true) (k11 : PySem.W.keepIn K (.ref f11) = true)
    (a12 : PySem.W.nsIn K mainGlobals "check_signs" = some (some (.ref f12))) (l12 : K.lookup f12 = some ⟨oc12, od12, .func (PySem.W.fnOf "check_signs" "check_signs" (defArgs s_check_signs) (defBody s_check_signs) (defScope s_check_signs) .none kV12 dc12 pm12 an12 cd12 ct12), sl12⟩) (c12 : PySem.W.codeIn K cd12 "check_signs" = true) (k12 : PySem.W.keepIn K (.ref f12) = true)
    (a13 : PySem.W.findIn K (.ref ca_Book) "__init__" = some (some (.ref f13))) (i13 : PySem.W.isFn K (.ref f13) = true) (l13 : K.lookup f13 = some ⟨oc13, od13, .func (PySem.W.fnOf "__init__" "Book.__init__" (defArgs s_Book___init__) (defBody s_Book___init__) (defScope s_Book___init__) .none kV13 dc13 pm13 an13 cd13 ct13), sl13⟩) (c13 : PySem.W.codeIn K cd13 "Book.__init__" = true) (k13 : PySem.W.keepIn K (.ref f13) = true)
    (a14 : PySem.W.findIn K (.ref ca_Learner) "__init__" = some (some (.ref f14))) (i14 : PySem.W.isFn K (.ref f14) = true) (l14 : K.lookup f14 = some ⟨oc14, od14, .func (PySem.W.fnOf "__init__" "Learner.__init__" (defArgs s_Learner___init__) (defBody s_Learner___init__) (defScope s_Learner___init__) .none kV14 dc14 pm14 an14 cd14 ct14), sl14⟩) (c14 : PySem.W.codeIn K cd14 "Learner.__init__" = true) (k14 : PySem.W.keepIn K (.ref f14) = true)
    (a15 : PySem.W.findIn K (.ref ca_Learner) "_learn" = some (some (.ref f15))) (i15 : PySem.W.isFn K (.ref f15) = true) (l15 : K.lookup f15 = some ⟨oc15, od15, .func (PySem.W.fnOf "_learn" "Learner._learn" (defArgs s_Learner__learn) (defBody s_Learner__learn) (defScope s_Learner__learn) .none kV15 dc15 pm15 an15 cd15 ct15), sl15⟩) (c15 : PySem.W.codeIn K cd15 "Learner._learn" = true) (k15 : PySem.W.keepIn K (.ref f15) = true)
    (a16 : PySem.W.findIn K (.ref ca_Learner) "took" = some (some (.ref f16))) (i16 : PySem.W.isFn K (.ref f16) = true) (l16 : K.lookup f16 = some ⟨oc16, od16, .func (PySem.W.fnOf "took" "Learner.took" (defArgs s_Learner_took) (defBody s_Learner_took) (defScope s_Learner_took) .none kV16 dc16 pm16 an16 cd16 ct16), sl16⟩) (c16 : PySem.W.codeIn K cd16 "Learner.took" = true) (k16 : PySem.W.keepIn K (.ref f16) = true)
    (a17 : PySem.W.nsIn K mainGlobals "check_text" = some (some (.ref f17))) (l17 : K.lookup f17 = some ⟨oc17, od17, .func (PySem.W.fnOf "check_text" "check_text" (defArgs s_check_text) (defBody s_check_text) (defScope s_check_text) .none kV17 dc17 pm17 an17 cd17 ct17), sl17⟩) (c17 : PySem.W.codeIn K cd17 "check_text" = true) (k17 : PySem.W.keepIn K (.ref f17) = true)
    (a18 : PySem.W.findIn K (.ref ca_Packer) "__init__" = some (some (.ref f18))) (i18 : PySem.W.isFn K (.ref f18) = true) (l18 : K.lookup f18 = some ⟨oc18, od18, .func (PySem.W.fnOf "__init__" "Packer.__init__" (defArgs s_Packer___init__) (defBody s_Packer___init__) (defScope s_Packer___init__) .none kV18 dc18 pm18 an18 cd18 ct18), sl18⟩) (c18 : PySem.W.codeIn K cd18 "Packer.__init__" = true) (k18 : PySem.W.keepIn K (.ref f18) = true)
    (a19 : PySem.W.findIn K (.ref ca_Packer) "put" = some (some (.ref f19))) (i19 : PySem.W.isFn K (.ref f19) = true) (l19 : K.lookup f19 = some ⟨oc19, od19, .func (PySem.W.fnOf "put" "Packer.put" (defArgs s_Packer_put) (defBody s_Packer_put) (defScope s_Packer_put) .none kV19 dc19 pm19 an19 cd19 ct19), sl19⟩) (c19 : PySem.W.codeIn K cd19 "Packer.put" = true) (k19 : PySem.W.keepIn K (.ref f19) = true)
    (a20 : PySem.W.nsIn K mainGlobals "pack" = some (some (.ref f20))) (l20 : K.lookup f20 = some ⟨oc20, od20, .func (PySem.W.fnOf "pack" "pack" (defArgs s_pack) (defBody s_pack) (defScope s_pack) .none kV20 dc20 pm20 an20 cd20 ct20), sl20⟩) (c20 : PySem.W.codeIn K cd20 "pack" = true) (k20 : PySem.W.keepIn K (.ref f20) = true)
    (a21 : PySem.W.nsIn K mainGlobals "check_bits" = some (some (.ref f21))) (l21 : K.lookup f21 = some ⟨oc21, od21, .func (PySem.W.fnOf "check_bits" "check_bits" (defArgs s_check_bits) (defBody s_check_bits) (defScope s_check_bits) .none kV21 dc21 pm21 an21 cd21 ct21), sl21⟩) (c21 : PySem.W.codeIn K cd21 "check_bits" = true) (k21 : PySem.W.keepIn K (.ref f21) = true)
    (a22 : PySem.W.findIn K (.ref ca_Unpacker) "__init__" = some (some (.ref f22))) (i22 : PySem.W.isFn K (.ref f22) = true) (l22 : K.lookup f22 = some ⟨oc22, od22, .func (PySem.W.fnOf "__init__" "Unpacker.__init__" (defArgs s_Unpacker___init__) (defBody s_Unpacker___init__) (defScope s_Unpacker___init__) .none kV22 dc22 pm22 an22 cd22 ct22), sl22⟩) (c22 : PySem.W.codeIn K cd22 "Unpacker.__init__" = true) (k22 : PySem.W.keepIn K (.ref f22) = true)
    (a23 : PySem.W.findIn K (.ref ca_Learner) "held" = some (some (.ref f23))) (i23 : PySem.W.isFn K (.ref f23) = true) (l23 : K.lookup f23 = some ⟨oc23, od23, .func (PySem.W.fnOf "held" "Learner.held" (defArgs s_Learner_held) (defBody s_Learner_held) (defScope s_Learner_held) .none kV23 dc23 pm23 an23 cd23 ct23), sl23⟩) (c23 : PySem.W.codeIn K cd23 "Learner.held" = true) (k23 : PySem.W.keepIn K (.ref f23) = true)
    (a24 : PySem.W.findIn K (.ref ca_Unpacker) "_arrive" = some (some (.ref f24))) (i24 : PySem.W.isFn K (.ref f24) = true) (l24 : K.lookup f24 = some ⟨oc24, od24, .func (PySem.W.fnOf "_arrive" "Unpacker._arrive" (defArgs s_Unpacker__arrive) (defBody s_Unpacker__arrive) (defScope s_Unpacker__arrive) .none kV24 dc24 pm24 an24 cd24 ct24), sl24⟩) (c24 : PySem.W.codeIn K cd24 "Unpacker._arrive" = true) (k24 : PySem.W.keepIn K (.ref f24) = true)
    (a25 : PySem.W.findIn K (.ref ca_Learner) "go_back" = some (some (.ref f25))) (i25 : PySem.W.isFn K (.ref f25) = true) (l25 : K.lookup f25 = some ⟨oc25, od25, .func (PySem.W.fnOf "go_back" "Learner.go_back" (defArgs s_Learner_go_back) (defBody s_Learner_go_back) (defScope s_Learner_go_back) .none kV25 dc25 pm25 an25 cd25 ct25), sl25⟩) (c25 : PySem.W.codeIn K cd25 "Learner.go_back" = true) (k25 : PySem.W.keepIn K (.ref f25) = true)
    (a26 : PySem.W.findIn K (.ref ca_Unpacker) "_follow" = some (some (.ref f26))) (i26 : PySem.W.isFn K (.ref f26) = true) (l26 : K.lookup f26 = some ⟨oc26, od26, .func (PySem.W.fnOf "_follow" "Unpacker._follow" (defArgs s_Unpacker__follow) (defBody s_Unpacker__follow) (defScope s_Unpacker__follow) .none kV26 dc26 pm26 an26 cd26 ct26), sl26⟩) (c26 : PySem.W.codeIn K cd26 "Unpacker._follow" = true) (k26 : PySem.W.keepIn K (.ref f26) = true)
    (a27 : PySem.W.findIn K (.ref ca_Unpacker) "put" = some (some (.ref f27))) (i27 : PySem.W.isFn K (.ref f27) = true) (l27 : K.lookup f27 = some ⟨oc27, od27, .func (PySem.W.fnOf "put" "Unpacker.put" (defArgs s_Unpacker_put) (defBody s_Unpacker_put) (defScope s_Unpacker_put) .none kV27 dc27 pm27 an27 cd27 ct27), sl27⟩) (c27 : PySem.W.codeIn K cd27 "Unpacker.put" = true) (k27 : PySem.W.keepIn K (.ref f27) = true)
    (a28 : PySem.W.nsIn K mainGlobals "unpack" = some (some (.ref f28))) (l28 : K.lookup f28 = some ⟨oc28, od28, .func (PySem.W.fnOf "unpack" "unpack" (defArgs s_unpack) (defBody s_unpack) (defScope s_unpack) .none kV28 dc28 pm28 an28 cd28 ct28), sl28⟩) (c28 : PySem.W.codeIn K cd28 "unpack" = true) (k28 : PySem.W.keepIn K (.ref f28) = true)
    (a29 : PySem.W.nsIn K mainGlobals "check_text" = some (some (.ref f29))) (l29 : K.lookup f29 = some ⟨oc29, od29, .func (PySem.W.fnOf "check_text" "check_text" (defArgs s_check_text) (defBody s_check_text) (defScope s_check_text) .none kV29 dc29 pm29 an29 cd29 ct29), sl29⟩) (c29 : PySem.W.codeIn K cd29 "check_text" = true) (k29 : PySem.W.keepIn K (.ref f29) = true)
    (a30 : PySem.W.findIn K (.ref ca_Packer) "put" = some (some (.ref f30))) (i30 : PySem.W.isFn K (.ref f30) = true) (l30 : K.lookup f30 = some ⟨oc30, od30, .func (PySem.W.fnOf "put" "Packer.put" (defArgs s_Packer_put) (defBody s_Packer_put) (defScope s_Packer_put) .none kV30 dc30 pm30 an30 cd30 ct30), sl30⟩) (c30 : PySem.W.codeIn K cd30 "Packer.put" = true) (k30 : PySem.W.keepIn K (.ref f30) = true)
    (a31 : PySem.W.nsIn K mainGlobals "pack" = some (some (.ref f31))) (l31 : K.lookup f31 = some ⟨oc31, od31, .func (PySem.W.fnOf "pack" "pack" (defArgs s_pack) (defBody s_pack) (defScope s_pack) .none kV31 dc31 pm31 an31 cd31 ct31), sl31⟩) (c31 : PySem.W.codeIn K cd31 "pack" = true) (k31 : PySem.W.keepIn K (.ref f31) = true)
    (a32 : PySem.W.nsIn K mainGlobals "written" = some (some (.ref f32))) (l32 : K.lookup f32 = some ⟨oc32, od32, .func (PySem.W.fnOf "written" "written" (defArgs s_written) (defBody s_written) (defScope s_written) .none kV32 dc32 pm32 an32 cd32 ct32), sl32⟩) (c32 : PySem.W.codeIn K cd32 "written" = true) (k32 : PySem.W.keepIn K (.ref f32) = true)
    (a33 : PySem.W.findIn K (.ref ca_Unpacker) "__init__" = some (some (.ref f33))) (i33 : PySem.W.isFn K (.ref f33) = true) (l33 : K.lookup f33 = some ⟨oc33, od33, .func (PySem.W.fnOf "__init__" "Unpacker.__init__" (defArgs s_Unpacker___init__) (defBody s_Unpacker___init__) (defScope s_Unpacker___init__) .none kV33 dc33 pm33 an33 cd33 ct33), sl33⟩) (c33 : PySem.W.codeIn K cd33 "Unpacker.__init__" = true) (k33 : PySem.W.keepIn K (.ref f33) = true)
    (a34 : PySem.W.nsIn K mainGlobals "unpack" = some (some (.ref f34))) (l34 : K.lookup f34 = some ⟨oc34, od34, .func (PySem.W.fnOf "unpack" "unpack" (defArgs s_unpack) (defBody s_unpack) (defScope s_unpack) .none kV34 dc34 pm34 an34 cd34 ct34), sl34⟩) (c34 : PySem.W.codeIn K cd34 "unpack" = true) (k34 : PySem.W.keepIn K (.ref f34) = true)
    (a35 : PySem.W.nsIn K mainGlobals "report" = some (some (.ref f35))) (l35 : K.lookup f35 = some ⟨oc35, od35, .func (PySem.W.fnOf "report" "report" (defArgs s_report) (defBody s_report) (defScope s_report) .none kV35 dc35 pm35 an35 cd35 ct35), sl35⟩) (c35 : PySem.W.codeIn K cd35 "report" = true) (k35 : PySem.W.keepIn K (.ref f35) = true)
    (a36 : PySem.W.nsIn K mainGlobals "_law_kinds" = some (some (.ref f36))) (l36 : K.lookup f36 = some ⟨oc36, od36, .func (PySem.W.fnOf "_law_kinds" "_law_kinds" (defArgs s_kinds) (defBody s_kinds) (defScope s_kinds) .none kV36 dc36 pm36 an36 cd36 ct36), sl36⟩) (c36 : PySem.W.codeIn K cd36 "_law_kinds" = true) (k36 : PySem.W.keepIn K (.ref f36) = true)
    (a37 : PySem.W.nsIn K mainGlobals "_law_told" = some (some (.ref f37))) (l37 : K.lookup f37 = some ⟨oc37, od37, .func (PySem.W.fnOf "_law_told" "_law_told" (defArgs s_told) (defBody s_told) (defScope s_told) .none kV37 dc37 pm37 an37 cd37 ct37), sl37⟩) (c37 : PySem.W.codeIn K cd37 "_law_told" = true) (k37 : PySem.W.keepIn K (.ref f37) = true)
    (a38 : PySem.W.nsIn K mainGlobals "_law_count_drawn" = some (some (.ref f38))) (l38 : K.lookup f38 = some ⟨oc38, od38, .func (PySem.W.fnOf "_law_count_drawn" "_law_count_drawn" (defArgs s_count_drawn) (defBody s_count_drawn) (defScope s_count_drawn) .none kV38 dc38 pm38 an38 cd38 ct38), sl38⟩) (c38 : PySem.W.codeIn K cd38 "_law_count_drawn" = true) (k38 : PySem.W.keepIn K (.ref f38) = true)
    (a39 : PySem.W.nsIn K mainGlobals "_law_count_due" = some (some (.ref f39))) (l39 : K.lookup f39 = some ⟨oc39, od39, .func (PySem.W.fnOf "_law_count_due" "_law_count_due" (defArgs s_count_due) (defBody s_count_due) (defScope s_count_due) .none kV39 dc39 pm39 an39 cd39 ct39), sl39⟩) (c39 : PySem.W.codeIn K cd39 "_law_count_due" = true) (k39 : PySem.W.keepIn K (.ref f39) = true)
    (a40 : PySem.W.nsIn K mainGlobals "_law_put_in" = some (some (.ref f40))) (l40 : K.lookup f40 = some ⟨oc40, od40, .func (PySem.W.fnOf "_law_put_in" "_law_put_in" (defArgs s_put_in) (defBody s_put_in) (defScope s_put_in) .none kV40 dc40 pm40 an40 cd40 ct40), sl40⟩) (c40 : PySem.W.codeIn K cd40 "_law_put_in" = true) (k40 : PySem.W.keepIn K (.ref f40) = true)
    (a41 : PySem.W.nsIn K mainGlobals "_law_stands" = some (some (.ref f41))) (l41 : K.lookup f41 = some ⟨oc41, od41, .func (PySem.W.fnOf "_law_stands" "_law_stands" (defArgs s_stands) (defBody s_stands) (defScope s_stands) .none kV41 dc41 pm41 an41 cd41 ct41), sl41⟩) (c41 : PySem.W.codeIn K cd41 "_law_stands" = true) (k41 : PySem.W.keepIn K (.ref f41) = true)
    (a42 : PySem.W.nsIn K mainGlobals "_law_goes_on" = some (some (.ref f42))) (l42 : K.lookup f42 = some ⟨oc42, od42, .func (PySem.W.fnOf "_law_goes_on" "_law_goes_on" (defArgs s_goes_on) (defBody s_goes_on) (defScope s_goes_on) .none kV42 dc42 pm42 an42 cd42 ct42), sl42⟩) (c42 : PySem.W.codeIn K cd42 "_law_goes_on" = true) (k42 : PySem.W.keepIn K (.ref f42) = true)
    (m42 : cd42 = .ref lc42) (n42 : K.lookup lc42 = some ⟨le42, ld42, .fields lv42, ls42⟩) (o42 : lv42[11]? = some (.ref lP42))
    (a43 : PySem.W.nsIn K mainGlobals "_law_text_by" = some (some (.ref f43))) (l43 : K.lookup f43 = some ⟨oc43, od43, .func (PySem.W.fnOf "_law_text_by" "_law_text_by" (defArgs s_text_by) (defBody s_text_by) (defScope s_text_by) .none kV43 dc43 pm43 an43 cd43 ct43), sl43⟩) (c43 : PySem.W.codeIn K cd43 "_law_text_by" = true) (k43 : PySem.W.keepIn K (.ref f43) = true)
    (a44 : PySem.W.nsIn K mainGlobals "_law_book_by" = some (some (.ref f44))) (l44 : K.lookup f44 = some ⟨oc44, od44, .func (PySem.W.fnOf "_law_book_by" "_law_book_by" (defArgs s_book_by) (defBody s_book_by) (defScope s_book_by) .none kV44 dc44 pm44 an44 cd44 ct44), sl44⟩) (c44 : PySem.W.codeIn K cd44 "_law_book_by" = true) (k44 : PySem.W.keepIn K (.ref f44) = true)
    (a45 : PySem.W.nsIn K mainGlobals "law" = some (some (.ref f45))) (l45 : K.lookup f45 = some ⟨oc45, od45, .func (PySem.W.fnOf "law" "law" (defArgs s_law) (defBody s_law) (defScope s_law) .none kV45 dc45 pm45 an45 cd45 ct45), sl45⟩) (c45 : PySem.W.codeIn K cd45 "law" = true) (k45 : PySem.W.keepIn K (.ref f45) = true)
    (m45 : cd45 = .ref lc45) (n45 : K.lookup lc45 = some ⟨le45, ld45, .fields lv45, ls45⟩) (o45 : lv45[11]? = some (.ref lP45))
    (dn : lP42 ≠ lP45)
    (zb_ValueError : PySem.W.nsIn K mainGlobals "ValueError" = some none)
    (zb_bool : PySem.W.nsIn K mainGlobals "bool" = some none)
    (zb_enumerate : PySem.W.nsIn K mainGlobals "enumerate" = some none)
    (zb_int : PySem.W.nsIn K mainGlobals "int" = some none)
    (zb_isinstance : PySem.W.nsIn K mainGlobals "isinstance" = some none)
    (zb_len : PySem.W.nsIn K mainGlobals "len" = some none)
    (zb_list : PySem.W.nsIn K mainGlobals "list" = some none)
    (zb_max : PySem.W.nsIn K mainGlobals "max" = some none)
    (zb_range : PySem.W.nsIn K mainGlobals "range" = some none)
    (zb_reversed : PySem.W.nsIn K mainGlobals "reversed" = some none)
    (zb_str : PySem.W.nsIn K mainGlobals "str" = some none)
    (zb_sum : PySem.W.nsIn K mainGlobals "sum" = some none)
    (zb_zip : PySem.W.nsIn K mainGlobals "zip" = some none)
    (pg_Book : PySem.W.plainGet K ca_Book Str.empty = true)
    (hd_Book : PySem.W.hasDictIn K ca_Book = true)
    (po_Book : PySem.W.plainOver K ca_Book = true)
    (sa_Book : PySem.W.findIn K (.ref ca_Book) "__setattr__" = some (some (.builtin "object.__setattr__")))
    (pg_Learner : PySem.W.plainGet K ca_Learner Str.empty = true)
    (hd_Learner : PySem.W.hasDictIn K ca_Learner = true)
    (po_Learner : PySem.W.plainOver K ca_Learner = true)
    (sa_Learner : PySem.W.findIn K (.ref ca_Learner) "__setattr__" = some (some (.builtin "object.__setattr__")))
    (pg_Packer : PySem.W.plainGet K ca_Packer Str.empty = true)
    (hd_Packer : PySem.W.hasDictIn K ca_Packer = true)
    (po_Packer : PySem.W.plainOver K ca_Packer = true)
    (sa_Packer : PySem.W.findIn K (.ref ca_Packer) "__setattr__" = some (some (.builtin "object.__setattr__")))
    (pg_Unpacker : PySem.W.plainGet K ca_Unpacker Str.empty = true)
    (hd_Unpacker : PySem.W.hasDictIn K ca_Unpacker = true)
    (po_Unpacker : PySem.W.plainOver K ca_Unpacker = true)
    (sa_Unpacker : PySem.W.findIn K (.ref ca_Unpacker) "__setattr__" = some (some (.builtin "object.__setattr__")))
    (zn_Book_cap : PySem.W.findIn K (.ref ca_Book) "cap" = some none)
    (zn_Book_signs : PySem.W.findIn K (.ref ca_Book) "signs" = some none)
    (zn_Book_size : PySem.W.findIn K (.ref ca_Book) "size" = some none)
    (zn_Learner__book : PySem.W.findIn K (.ref ca_Learner) "_book" = some none)
    (zn_Learner_shares : PySem.W.findIn K (.ref ca_Learner) "shares" = some none)
    (zn_Learner_waits : PySem.W.findIn K (.ref ca_Learner) "waits" = some none)
    (zn_Learner_words : PySem.W.findIn K (.ref ca_Learner) "words" = some none)
    (zn_Packer__signs : PySem.W.findIn K (.ref ca_Packer) "_signs" = some none)
    (zn_Packer_learner : PySem.W.findIn K (.ref ca_Packer) "learner" = some none)
    (zn_Unpacker__signs : PySem.W.findIn K (.ref ca_Unpacker) "_signs" = some none)
    (zn_Unpacker__way : PySem.W.findIn K (.ref ca_Unpacker) "_way" = some none)
    (zn_Unpacker_learner : PySem.W.findIn K (.ref ca_Unpacker) "learner" = some none)
    (zn_Unpacker_left : PySem.W.findIn K (.ref ca_Unpacker) "left" = some none)
    (zg_GREATEST_CAP : PySem.W.nsIn K mainGlobals "GREATEST_CAP" = some (some (.int 1000000 tk_GREATEST_CAP)))
    (zg_GREATEST_SHARE : PySem.W.nsIn K mainGlobals "GREATEST_SHARE" = some (some (.int 1000000000000 tk_GREATEST_SHARE)))
    (zg_LONGEST_BLOCK : PySem.W.nsIn K mainGlobals "LONGEST_BLOCK" = some (some (.int 99 tk_LONGEST_BLOCK)))
    (zg_LONGEST_TEXT : PySem.W.nsIn K mainGlobals "LONGEST_TEXT" = some (some (.int 2000 tk_LONGEST_TEXT)))
    (zg_MOST_SHARES : PySem.W.nsIn K mainGlobals "MOST_SHARES" = some (some (.int 40 tk_MOST_SHARES)))
    (zg_heapify : PySem.W.nsIn K mainGlobals "heapify" = some (some (.builtin "_heapq.heapify")))
    (zg_heappop : PySem.W.nsIn K mainGlobals "heappop" = some (some (.builtin "_heapq.heappop")))
    (zg_heappush : PySem.W.nsIn K mainGlobals "heappush" = some (some (.builtin "_heapq.heappush")))
    (zx1_BadBit : PySem.W.excIn K ca_BadBit [.type "ValueError", .type "Exception", .type "BaseException", .type "object"] "ValueError.__new__" = true)
    (zx2_BadBit : PySem.W.keepIn K (.ref ca_BadBit) = true)
    (zx3_BadBit : PySem.W.subIn K (.ref ca_BadBit) (.type "BaseException") = some true)
    (zx4_BadBit : PySem.W.typeIn K (.ref ca_BadBit) = some (.type "type"))
    (zx1_BadCount : PySem.W.excIn K ca_BadCount [.type "ValueError", .type "Exception", .type "BaseException", .type "object"] "ValueError.__new__" = true)
    (zx2_BadCount : PySem.W.keepIn K (.ref ca_BadCount) = true)
    (zx3_BadCount : PySem.W.subIn K (.ref ca_BadCount) (.type "BaseException") = some true)
    (zx4_BadCount : PySem.W.typeIn K (.ref ca_BadCount) = some (.type "type"))
    (zx1_BadSign : PySem.W.excIn K ca_BadSign [.type "ValueError", .type "Exception", .type "BaseException", .type "object"] "ValueError.__new__" = true)
    (zx2_BadSign : PySem.W.keepIn K (.ref ca_BadSign) = true)
    (zx3_BadSign : PySem.W.subIn K (.ref ca_BadSign) (.type "BaseException") = some true)
    (zx4_BadSign : PySem.W.typeIn K (.ref ca_BadSign) = some (.type "type"))
    (zx1_Loose : PySem.W.excIn K ca_Loose [.type "ValueError", .type "Exception", .type "BaseException", .type "object"] "ValueError.__new__" = true)
    (zx2_Loose : PySem.W.keepIn K (.ref ca_Loose) = true)
    (zx3_Loose : PySem.W.subIn K (.ref ca_Loose) (.type "BaseException") = some true)
    (zx4_Loose : PySem.W.typeIn K (.ref ca_Loose) = some (.type "type"))
    (zx1_Short : PySem.W.excIn K ca_Short [.type "ValueError", .type "Exception", .type "BaseException", .type "object"] "ValueError.__new__" = true)
    (zx2_Short : PySem.W.keepIn K (.ref ca_Short) = true)
    (zx3_Short : PySem.W.subIn K (.ref ca_Short) (.type "BaseException") = some true)
    (zx4_Short : PySem.W.typeIn K (.ref ca_Short) = some (.type "type"))
    (zs_BadBit_BadBit : PySem.W.subIn K (.ref ca_BadBit) (.ref ca_BadBit) = some true)
    (zh_BadBit : PySem.W.hasDictIn K ca_BadBit = true)
    (zs_BadBit_BadCount : PySem.W.subIn K (.ref ca_BadBit) (.ref ca_BadCount) = some false)
    (zh_BadCount : PySem.W.hasDictIn K ca_BadCount = true)
    (zs_BadCount_BadCount : PySem.W.subIn K (.ref ca_BadCount) (.ref ca_BadCount) = some true)
    (zs_BadSign_BadBit : PySem.W.subIn K (.ref ca_BadSign) (.ref ca_BadBit) = some false)
    (zs_BadSign_BadCount : PySem.W.subIn K (.ref ca_BadSign) (.ref ca_BadCount) = some false)
    (zs_BadSign_BadSign : PySem.W.subIn K (.ref ca_BadSign) (.ref ca_BadSign) = some true)
    (zh_BadSign : PySem.W.hasDictIn K ca_BadSign = true)
    (zs_BadSign_Loose : PySem.W.subIn K (.ref ca_BadSign) (.ref ca_Loose) = some false)
    (zh_Loose : PySem.W.hasDictIn K ca_Loose = true)
    (zs_BadSign_Short : PySem.W.subIn K (.ref ca_BadSign) (.ref ca_Short) = some false)
    (zh_Short : PySem.W.hasDictIn K ca_Short = true)
    (zs_Loose_BadBit : PySem.W.subIn K (.ref ca_Loose) (.ref ca_BadBit) = some false)
    (zs_Loose_BadCount : PySem.W.subIn K (.ref ca_Loose) (.ref ca_BadCount) = some false)
    (zs_Loose_Loose : PySem.W.subIn K (.ref ca_Loose) (.ref ca_Loose) = some true)
    (zs_Short_BadBit : PySem.W.subIn K (.ref ca_Short) (.ref ca_BadBit) = some false)
    (zs_Short_BadCount : PySem.W.subIn K (.ref ca_Short) (.ref ca_BadCount) = some false)
    (zs_Short_Loose : PySem.W.subIn K (.ref ca_Short) (.ref ca_Loose) = some false)
    (zs_Short_Short : PySem.W.subIn K (.ref ca_Short) (.ref ca_Short) = some true)
    (zq1_BadBit : PySem.W.findIn K (.ref ca_BadBit) "__getattribute__" = some (some (.builtin "BaseException.__getattribute__")))
    (zq2_BadBit : PySem.W.findIn K (.ref ca_BadBit) "__getattr__" = some none)
    (zk1_BadBit : PySem.W.findIn K (.ref ca_BadBit) "__class__" = some (some (.builtin "object.__class__")))
    (zk2_BadBit : PySem.W.specialIn K (.builtin "object.__class__") "__get__" = some (some (.builtin "getset_descriptor.__get__")))
    (zk3_BadBit : PySem.W.takesIn K (.builtin "object.__class__") = some true)
    (zk4_BadBit : PySem.W.mroIn K ca_BadBit (.type "object") = some true)
    (zi_BadBit_BadBook : PySem.W.kitOne K (.ref ca_BadBit) (.ref ca_BadBook) = some false)
    (zi_BadBit_BadShares : PySem.W.kitOne K (.ref ca_BadBit) (.ref ca_BadShares) = some false)
    (zi_BadBit_BadSign : PySem.W.kitOne K (.ref ca_BadBit) (.ref ca_BadSign) = some false)
    (zi_BadBit_BadCount : PySem.W.kitOne K (.ref ca_BadBit) (.ref ca_BadCount) = some false)
    (zi_BadBit_Loose : PySem.W.kitOne K (.ref ca_BadBit) (.ref ca_Loose) = some false)
    (zi_BadBit_Short : PySem.W.kitOne K (.ref ca_BadBit) (.ref ca_Short) = some false)
    (zi_BadBit_BadLine : PySem.W.kitOne K (.ref ca_BadBit) (.ref ca_BadLine) = some false)
    (zi_BadBit_PackError : PySem.W.kitOne K (.ref ca_BadBit) (.ref ca_PackError) = some true)
    (zv_BadBit : PySem.W.kitOne K (.ref ca_BadBit) (.type "ValueError") = some true)
    (zq1_BadCount : PySem.W.findIn K (.ref ca_BadCount) "__getattribute__" = some (some (.builtin "BaseException.__getattribute__")))
    (zq2_BadCount : PySem.W.findIn K (.ref ca_BadCount) "__getattr__" = some none)
    (zk1_BadCount : PySem.W.findIn K (.ref ca_BadCount) "__class__" = some (some (.builtin "object.__class__")))
    (zk2_BadCount : PySem.W.specialIn K (.builtin "object.__class__") "__get__" = some (some (.builtin "getset_descriptor.__get__")))
    (zk3_BadCount : PySem.W.takesIn K (.builtin "object.__class__") = some true)
    (zk4_BadCount : PySem.W.mroIn K ca_BadCount (.type "object") = some true)
    (zi_BadCount_BadBook : PySem.W.kitOne K (.ref ca_BadCount) (.ref ca_BadBook) = some false)
    (zi_BadCount_BadShares : PySem.W.kitOne K (.ref ca_BadCount) (.ref ca_BadShares) = some false)
    (zi_BadCount_BadSign : PySem.W.kitOne K (.ref ca_BadCount) (.ref ca_BadSign) = some false)
    (zi_BadCount_BadBit : PySem.W.kitOne K (.ref ca_BadCount) (.ref ca_BadBit) = some false)
    (zi_BadCount_Loose : PySem.W.kitOne K (.ref ca_BadCount) (.ref ca_Loose) = some false)
    (zi_BadCount_Short : PySem.W.kitOne K (.ref ca_BadCount) (.ref ca_Short) = some false)
    (zi_BadCount_BadLine : PySem.W.kitOne K (.ref ca_BadCount) (.ref ca_BadLine) = some false)
    (zi_BadCount_PackError : PySem.W.kitOne K (.ref ca_BadCount) (.ref ca_PackError) = some true)
    (zv_BadCount : PySem.W.kitOne K (.ref ca_BadCount) (.type "ValueError") = some true)
    (zq1_BadSign : PySem.W.findIn K (.ref ca_BadSign) "__getattribute__" = some (some (.builtin "BaseException.__getattribute__")))
    (zq2_BadSign : PySem.W.findIn K (.ref ca_BadSign) "__getattr__" = some none)
    (zk1_BadSign : PySem.W.findIn K (.ref ca_BadSign) "__class__" = some (some (.builtin "object.__class__")))
    (zk2_BadSign : PySem.W.specialIn K (.builtin "object.__class__") "__get__" = some (some (.builtin "getset_descriptor.__get__")))
    (zk3_BadSign : PySem.W.takesIn K (.builtin "object.__class__") = some true)
    (zk4_BadSign : PySem.W.mroIn K ca_BadSign (.type "object") = some true)
    (zi_BadSign_BadBook : PySem.W.kitOne K (.ref ca_BadSign) (.ref ca_BadBook) = some false)
    (zi_BadSign_BadShares : PySem.W.kitOne K (.ref ca_BadSign) (.ref ca_BadShares) = some false)
    (zi_BadSign_BadCount : PySem.W.kitOne K (.ref ca_BadSign) (.ref ca_BadCount) = some false)
    (zi_BadSign_BadBit : PySem.W.kitOne K (.ref ca_BadSign) (.ref ca_BadBit) = some false)
    (zi_BadSign_Loose : PySem.W.kitOne K (.ref ca_BadSign) (.ref ca_Loose) = some false)
    (zi_BadSign_Short : PySem.W.kitOne K (.ref ca_BadSign) (.ref ca_Short) = some false)
    (zi_BadSign_BadLine : PySem.W.kitOne K (.ref ca_BadSign) (.ref ca_BadLine) = some false)
    (zi_BadSign_PackError : PySem.W.kitOne K (.ref ca_BadSign) (.ref ca_PackError) = some true)
    (zv_BadSign : PySem.W.kitOne K (.ref ca_BadSign) (.type "ValueError") = some true)
    (zq1_Loose : PySem.W.findIn K (.ref ca_Loose) "__getattribute__" = some (some (.builtin "BaseException.__getattribute__")))
    (zq2_Loose : PySem.W.findIn K (.ref ca_Loose) "__getattr__" = some none)
    (zk1_Loose : PySem.W.findIn K (.ref ca_Loose) "__class__" = some (some (.builtin "object.__class__")))
    (zk2_Loose : PySem.W.specialIn K (.builtin "object.__class__") "__get__" = some (some (.builtin "getset_descriptor.__get__")))
    (zk3_Loose : PySem.W.takesIn K (.builtin "object.__class__") = some true)
    (zk4_Loose : PySem.W.mroIn K ca_Loose (.type "object") = some true)
    (zi_Loose_BadBook : PySem.W.kitOne K (.ref ca_Loose) (.ref ca_BadBook) = some false)
    (zi_Loose_BadShares : PySem.W.kitOne K (.ref ca_Loose) (.ref ca_BadShares) = some false)
    (zi_Loose_BadSign : PySem.W.kitOne K (.ref ca_Loose) (.ref ca_BadSign) = some false)
    (zi_Loose_BadCount : PySem.W.kitOne K (.ref ca_Loose) (.ref ca_BadCount) = some false)
    (zi_Loose_BadBit : PySem.W.kitOne K (.ref ca_Loose) (.ref ca_BadBit) = some false)
    (zi_Loose_Short : PySem.W.kitOne K (.ref ca_Loose) (.ref ca_Short) = some false)
    (zi_Loose_BadLine : PySem.W.kitOne K (.ref ca_Loose) (.ref ca_BadLine) = some false)
    (zi_Loose_PackError : PySem.W.kitOne K (.ref ca_Loose) (.ref ca_PackError) = some true)
    (zv_Loose : PySem.W.kitOne K (.ref ca_Loose) (.type "ValueError") = some true)
    (zq1_Short : PySem.W.findIn K (.ref ca_Short) "__getattribute__" = some (some (.builtin "BaseException.__getattribute__")))
    (zq2_Short : PySem.W.findIn K (.ref ca_Short) "__getattr__" = some none)
    (zk1_Short : PySem.W.findIn K (.ref ca_Short) "__class__" = some (some (.builtin "object.__class__")))
    (zk2_Short : PySem.W.specialIn K (.builtin "object.__class__") "__get__" = some (some (.builtin "getset_descriptor.__get__")))
    (zk3_Short : PySem.W.takesIn K (.builtin "object.__class__") = some true)
    (zk4_Short : PySem.W.mroIn K ca_Short (.type "object") = some true)
    (zi_Short_BadBook : PySem.W.kitOne K (.ref ca_Short) (.ref ca_BadBook) = some false)
    (zi_Short_BadShares : PySem.W.kitOne K (.ref ca_Short) (.ref ca_BadShares) = some false)
    (zi_Short_BadSign : PySem.W.kitOne K (.ref ca_Short) (.ref ca_BadSign) = some false)
    (zi_Short_BadCount : PySem.W.kitOne K (.ref ca_Short) (.ref ca_BadCount) = some false)
    (zi_Short_BadBit : PySem.W.kitOne K (.ref ca_Short) (.ref ca_BadBit) = some false)
    (zi_Short_Loose : PySem.W.kitOne K (.ref ca_Short) (.ref ca_Loose) = some false)
    (zi_Short_BadLine : PySem.W.kitOne K (.ref ca_Short) (.ref ca_BadLine) = some false)
    (zi_Short_PackError : PySem.W.kitOne K (.ref ca_Short) (.ref ca_PackError) = some true)
    (zv_Short : PySem.W.kitOne K (.ref ca_Short) (.type "ValueError") = some true)
    (mk_Book : PySem.W.makesIn K ca_Book = true)
    (kc_Book : PySem.W.keepIn K (.ref ca_Book) = true)
    (mk_Learner : PySem.W.makesIn K ca_Learner = true)
    (kc_Learner : PySem.W.keepIn K (.ref ca_Learner) = true)
    (mk_Packer : PySem.W.makesIn K ca_Packer = true)
    (kc_Packer : PySem.W.keepIn K (.ref ca_Packer) = true)
    (mk_Unpacker : PySem.W.makesIn K ca_Unpacker = true)
    (kc_Unpacker : PySem.W.keepIn K (.ref ca_Unpacker) = true) :
    (∀ e ∈ ([(("_law_goes_on" : Str), lc42, lP42), (("law" : Str), lc45, lP45)] : List (Str × Addr × Addr)), PySem.W.tabIn K e.1 = some (e.2.1, e.2.2)) ∧ ∃ fd : FuncData, (∀ (s : Shared) (v : Value), BindsTo s fd ⟨[v], []⟩ [("_law_script", v)]) ∧ ∀ base : Heap, K.In base → base.Ns mainGlobals mg → (∀ e ∈ ([(("_law_goes_on" : Str), lc42, lP42), (("law" : Str), lc45, lP45)] : List (Str × Addr × Addr)), LamX.TabB base mg e.2.1 e.2.2) → FnOk l.prog w K mg base CX0 15 fa fd ["_law_script"] (sp_lawN (tlOf [(("_law_goes_on" : Str), lc42, lP42), (("law" : Str), lc45, lP45)]) K) := by
  have e := hfa.symm.trans (PySem.W.mg_of X G a45)
  cases e
  have hc_BadBit : mg "BadBit" = some (.ref ca_BadBit) := PySem.W.mg_of X G zc_BadBit
  have ec_BadBit : cadr mg "BadBit" = ca_BadBit := cadr_of hc_BadBit
  have hc_BadBook : mg "BadBook" = some (.ref ca_BadBook) := PySem.W.mg_of X G zc_BadBook
  have ec_BadBook : cadr mg "BadBook" = ca_BadBook := cadr_of hc_BadBook
  have hc_BadCount : mg "BadCount" = some (.ref ca_BadCount) := PySem.W.mg_of X G zc_BadCount
  have ec_BadCount : cadr mg "BadCount" = ca_BadCount := cadr_of hc_BadCount
  have hc_BadLine : mg "BadLine" = some (.ref ca_BadLine) := PySem.W.mg_of X G zc_BadLine
  have ec_BadLine : cadr mg "BadLine" = ca_BadLine := cadr_of hc_BadLine
  have hc_BadShares : mg "BadShares" = some (.ref ca_BadShares) := PySem.W.mg_of X G zc_BadShares
  have ec_BadShares : cadr mg "BadShares" = ca_BadShares := cadr_of hc_BadShares
  have hc_BadSign : mg "BadSign" = some (.ref ca_BadSign) := PySem.W.mg_of X G zc_BadSign
  have ec_BadSign : cadr mg "BadSign" = ca_BadSign := cadr_of hc_BadSign
  have hc_Book : mg "Book" = some (.ref ca_Book) := PySem.W.mg_of X G zc_Book
  have ec_Book : cadr mg "Book" = ca_Book := cadr_of hc_Book
  have hc_Learner : mg "Learner" = some (.ref ca_Learner) := PySem.W.mg_of X G zc_Learner
  have ec_Learner : cadr mg "Learner" = ca_Learner := cadr_of hc_Learner
  have hc_Loose : mg "Loose" = some (.ref ca_Loose) := PySem.W.mg_of X G zc_Loose
  have ec_Loose : cadr mg "Loose" = ca_Loose := cadr_of hc_Loose
  have hc_PackError : mg "PackError" = some (.ref ca_PackError) := PySem.W.mg_of X G zc_PackError
  have ec_PackError : cadr mg "PackError" = ca_PackError := cadr_of hc_PackError
  have hc_Packer : mg "Packer" = some (.ref ca_Packer) := PySem.W.mg_of X G zc_Packer
  have ec_Packer : cadr mg "Packer" = ca_Packer := cadr_of hc_Packer
  have hc_Short : mg "Short" = some (.ref ca_Short) := PySem.W.mg_of X G zc_Short
  have ec_Short : cadr mg "Short" = ca_Short := cadr_of hc_Short
  have hc_Unpacker : mg "Unpacker" = some (.ref ca_Unpacker) := PySem.W.mg_of X G zc_Unpacker
  have ec_Unpacker : cadr mg "Unpacker" = ca_Unpacker := cadr_of hc_Unpacker
  have cl_Book : Cls K (cadr mg "Book") := by
    rw [ec_Book]
    exact ⟨pg_Book, hd_Book, po_Book, sa_Book⟩
  have cl_Learner : Cls K (cadr mg "Learner") := by
    rw [ec_Learner]
    exact ⟨pg_Learner, hd_Learner, po_Learner, sa_Learner⟩
  have cl_Packer : Cls K (cadr mg "Packer") := by
    rw [ec_Packer]
    exact ⟨pg_Packer, hd_Packer, po_Packer, sa_Packer⟩
  have cl_Unpacker : Cls K (cadr mg "Unpacker") := by
    rw [ec_Unpacker]
    exact ⟨pg_Unpacker, hd_Unpacker, po_Unpacker, sa_Unpacker⟩
  have T : Txt K mg := ⟨PySem.W.mg_none_of X G zb_ValueError, PySem.W.mg_none_of X G zb_bool, PySem.W.mg_none_of X G zb_enumerate, PySem.W.mg_none_of X G zb_int, PySem.W.mg_none_of X G zb_isinstance, PySem.W.mg_none_of X G zb_len, PySem.W.mg_none_of X G zb_list, PySem.W.mg_none_of X G zb_max, PySem.W.mg_none_of X G zb_range, PySem.W.mg_none_of X G zb_reversed, PySem.W.mg_none_of X G zb_str, PySem.W.mg_none_of X G zb_sum, PySem.W.mg_none_of X G zb_zip, cl_Book, cl_Learner, cl_Packer, cl_Unpacker, (by rw [ec_BadBit]; exact hc_BadBit), (by rw [ec_BadBook]; exact hc_BadBook), (by rw [ec_BadCount]; exact hc_BadCount), (by rw [ec_BadLine]; exact hc_BadLine), (by rw [ec_BadShares]; exact hc_BadShares), (by rw [ec_BadSign]; exact hc_BadSign), (by rw [ec_Loose]; exact hc_Loose), (by rw [ec_PackError]; exact hc_PackError), (by rw [ec_Short]; exact hc_Short), (by rw [ec_Book]; exact zn_Book_cap), (by rw [ec_Book]; exact zn_Book_signs), (by rw [ec_Book]; exact zn_Book_size), (by rw [ec_Learner]; exact zn_Learner__book), (by rw [ec_Learner]; exact zn_Learner_shares), (by rw [ec_Learner]; exact zn_Learner_waits), (by rw [ec_Learner]; exact zn_Learner_words), (by rw [ec_Packer]; exact zn_Packer__signs), (by rw [ec_Packer]; exact zn_Packer_learner), (by rw [ec_Unpacker]; exact zn_Unpacker__signs), (by rw [ec_Unpacker]; exact zn_Unpacker__way), (by rw [ec_Unpacker]; exact zn_Unpacker_learner), (by rw [ec_Unpacker]; exact zn_Unpacker_left), ⟨_, PySem.W.mg_of X G zg_GREATEST_CAP, ⟨_, rfl⟩⟩, ⟨_, PySem.W.mg_of X G zg_GREATEST_SHARE, ⟨_, rfl⟩⟩, ⟨_, PySem.W.mg_of X G zg_LONGEST_BLOCK, ⟨_, rfl⟩⟩, ⟨_, PySem.W.mg_of X G zg_LONGEST_TEXT, ⟨_, rfl⟩⟩, ⟨_, PySem.W.mg_of X G zg_MOST_SHARES, ⟨_, rfl⟩⟩, PySem.W.mg_of X G zg_heapify, PySem.W.mg_of X G zg_heappop, PySem.W.mg_of X G zg_heappush, ⟨by rw [ec_BadBit]; exact hc_BadBit, by rw [ec_BadBit]; exact zx1_BadBit, by rw [ec_BadBit]; exact zx2_BadBit, by rw [ec_BadBit]; exact zx3_BadBit, by rw [ec_BadBit]; exact zx4_BadBit⟩, ⟨by rw [ec_BadCount]; exact hc_BadCount, by rw [ec_BadCount]; exact zx1_BadCount, by rw [ec_BadCount]; exact zx2_BadCount, by rw [ec_BadCount]; exact zx3_BadCount, by rw [ec_BadCount]; exact zx4_BadCount⟩, ⟨by rw [ec_BadSign]; exact hc_BadSign, by rw [ec_BadSign]; exact zx1_BadSign, by rw [ec_BadSign]; exact zx2_BadSign, by rw [ec_BadSign]; exact zx3_BadSign, by rw [ec_BadSign]; exact zx4_BadSign⟩, ⟨by rw [ec_Loose]; exact hc_Loose, by rw [ec_Loose]; exact zx1_Loose, by rw [ec_Loose]; exact zx2_Loose, by rw [ec_Loose]; exact zx3_Loose, by rw [ec_Loose]; exact zx4_Loose⟩, ⟨by rw [ec_Short]; exact hc_Short, by rw [ec_Short]; exact zx1_Short, by rw [ec_Short]; exact zx2_Short, by rw [ec_Short]; exact zx3_Short, by rw [ec_Short]; exact zx4_Short⟩, (by rw [ec_BadBit]; exact PySem.W.exm_ref zx3_BadBit zh_BadBit zx4_BadBit zs_BadBit_BadBit), (by rw [ec_BadBit, ec_BadCount]; exact PySem.W.exm_ref zx3_BadCount zh_BadCount zx4_BadCount zs_BadBit_BadCount), (by rw [ec_BadCount]; exact PySem.W.exm_ref zx3_BadCount zh_BadCount zx4_BadCount zs_BadCount_BadCount), (by rw [ec_BadSign, ec_BadBit]; exact PySem.W.exm_ref zx3_BadBit zh_BadBit zx4_BadBit zs_BadSign_BadBit), (by rw [ec_BadSign, ec_BadCount]; exact PySem.W.exm_ref zx3_BadCount zh_BadCount zx4_BadCount zs_BadSign_BadCount), (by rw [ec_BadSign]; exact PySem.W.exm_ref zx3_BadSign zh_BadSign zx4_BadSign zs_BadSign_BadSign), (by rw [ec_BadSign, ec_Loose]; exact PySem.W.exm_ref zx3_Loose zh_Loose zx4_Loose zs_BadSign_Loose), (by rw [ec_BadSign, ec_Short]; exact PySem.W.exm_ref zx3_Short zh_Short zx4_Short zs_BadSign_Short), (by rw [ec_Loose, ec_BadBit]; exact PySem.W.exm_ref zx3_BadBit zh_BadBit zx4_BadBit zs_Loose_BadBit), (by rw [ec_Loose, ec_BadCount]; exact PySem.W.exm_ref zx3_BadCount zh_BadCount zx4_BadCount zs_Loose_BadCount), (by rw [ec_Loose]; exact PySem.W.exm_ref zx3_Loose zh_Loose zx4_Loose zs_Loose_Loose), (by rw [ec_Short, ec_BadBit]; exact PySem.W.exm_ref zx3_BadBit zh_BadBit zx4_BadBit zs_Short_BadBit), (by rw [ec_Short, ec_BadCount]; exact PySem.W.exm_ref zx3_BadCount zh_BadCount zx4_BadCount zs_Short_BadCount), (by rw [ec_Short, ec_Loose]; exact PySem.W.exm_ref zx3_Loose zh_Loose zx4_Loose zs_Short_Loose), (by rw [ec_Short]; exact PySem.W.exm_ref zx3_Short zh_Short zx4_Short zs_Short_Short), ⟨(by rw [ec_BadBit]; exact ⟨zq1_BadBit, zq2_BadBit, zx3_BadBit, zh_BadBit, zk1_BadBit, zk2_BadBit, zk3_BadBit, zk4_BadBit⟩), (by unfold PySem.W.kitOne; rw [if_pos (by simp)]), (by rw [ec_BadBit, ec_PackError]; exact zi_BadBit_PackError), (by rw [ec_BadBit]; exact zv_BadBit), (fun _ => by rw [ec_BadBit, ec_BadBook]; exact zi_BadBit_BadBook), (fun _ => by rw [ec_BadBit, ec_BadShares]; exact zi_BadBit_BadShares), (fun _ => by rw [ec_BadBit, ec_BadSign]; exact zi_BadBit_BadSign), (fun _ => by rw [ec_BadBit, ec_BadCount]; exact zi_BadBit_BadCount), (fun h => absurd h (by decide)), (fun _ => by rw [ec_BadBit, ec_Loose]; exact zi_BadBit_Loose), (fun _ => by rw [ec_BadBit, ec_Short]; exact zi_BadBit_Short), (fun _ => by rw [ec_BadBit, ec_BadLine]; exact zi_BadBit_BadLine)⟩, ⟨(by rw [ec_BadCount]; exact ⟨zq1_BadCount, zq2_BadCount, zx3_BadCount, zh_BadCount, zk1_BadCount, zk2_BadCount, zk3_BadCount, zk4_BadCount⟩), (by unfold PySem.W.kitOne; rw [if_pos (by simp)]), (by rw [ec_BadCount, ec_PackError]; exact zi_BadCount_PackError), (by rw [ec_BadCount]; exact zv_BadCount), (fun _ => by rw [ec_BadCount, ec_BadBook]; exact zi_BadCount_BadBook), (fun _ => by rw [ec_BadCount, ec_BadShares]; exact zi_BadCount_BadShares), (fun _ => by rw [ec_BadCount, ec_BadSign]; exact zi_BadCount_BadSign), (fun h => absurd h (by decide)), (fun _ => by rw [ec_BadCount, ec_BadBit]; exact zi_BadCount_BadBit), (fun _ => by rw [ec_BadCount, ec_Loose]; exact zi_BadCount_Loose), (fun _ => by rw [ec_BadCount, ec_Short]; exact zi_BadCount_Short), (fun _ => by rw [ec_BadCount, ec_BadLine]; exact zi_BadCount_BadLine)⟩, ⟨(by rw [ec_BadSign]; exact ⟨zq1_BadSign, zq2_BadSign, zx3_BadSign, zh_BadSign, zk1_BadSign, zk2_BadSign, zk3_BadSign, zk4_BadSign⟩), (by unfold PySem.W.kitOne; rw [if_pos (by simp)]), (by rw [ec_BadSign, ec_PackError]; exact zi_BadSign_PackError), (by rw [ec_BadSign]; exact zv_BadSign), (fun _ => by rw [ec_BadSign, ec_BadBook]; exact zi_BadSign_BadBook), (fun _ => by rw [ec_BadSign, ec_BadShares]; exact zi_BadSign_BadShares), (fun h => absurd h (by decide)), (fun _ => by rw [ec_BadSign, ec_BadCount]; exact zi_BadSign_BadCount), (fun _ => by rw [ec_BadSign, ec_BadBit]; exact zi_BadSign_BadBit), (fun _ => by rw [ec_BadSign, ec_Loose]; exact zi_BadSign_Loose), (fun _ => by rw [ec_BadSign, ec_Short]; exact zi_BadSign_Short), (fun _ => by rw [ec_BadSign, ec_BadLine]; exact zi_BadSign_BadLine)⟩, ⟨(by rw [ec_Loose]; exact ⟨zq1_Loose, zq2_Loose, zx3_Loose, zh_Loose, zk1_Loose, zk2_Loose, zk3_Loose, zk4_Loose⟩), (by unfold PySem.W.kitOne; rw [if_pos (by simp)]), (by rw [ec_Loose, ec_PackError]; exact zi_Loose_PackError), (by rw [ec_Loose]; exact zv_Loose), (fun _ => by rw [ec_Loose, ec_BadBook]; exact zi_Loose_BadBook), (fun _ => by rw [ec_Loose, ec_BadShares]; exact zi_Loose_BadShares), (fun _ => by rw [ec_Loose, ec_BadSign]; exact zi_Loose_BadSign), (fun _ => by rw [ec_Loose, ec_BadCount]; exact zi_Loose_BadCount), (fun _ => by rw [ec_Loose, ec_BadBit]; exact zi_Loose_BadBit), (fun h => absurd h (by decide)), (fun _ => by rw [ec_Loose, ec_Short]; exact zi_Loose_Short), (fun _ => by rw [ec_Loose, ec_BadLine]; exact zi_Loose_BadLine)⟩, ⟨(by rw [ec_Short]; exact ⟨zq1_Short, zq2_Short, zx3_Short, zh_Short, zk1_Short, zk2_Short, zk3_Short, zk4_Short⟩), (by unfold PySem.W.kitOne; rw [if_pos (by simp)]), (by rw [ec_Short, ec_PackError]; exact zi_Short_PackError), (by rw [ec_Short]; exact zv_Short), (fun _ => by rw [ec_Short, ec_BadBook]; exact zi_Short_BadBook), (fun _ => by rw [ec_Short, ec_BadShares]; exact zi_Short_BadShares), (fun _ => by rw [ec_Short, ec_BadSign]; exact zi_Short_BadSign), (fun _ => by rw [ec_Short, ec_BadCount]; exact zi_Short_BadCount), (fun _ => by rw [ec_Short, ec_BadBit]; exact zi_Short_BadBit), (fun _ => by rw [ec_Short, ec_Loose]; exact zi_Short_Loose), (fun h => absurd h (by decide)), (fun _ => by rw [ec_Short, ec_BadLine]; exact zi_Short_BadLine)⟩⟩
  have F0 := fun_mk (st := s_is_whole) l0 c0 k0
  have b0 := F0.binds (ps := ["value", "low", "high"]) fun _ _ _ _ _ _ us hl => match us, hl with | [_, _, _], _ => rfl
  have F1 := fun_mk (st := s_is_whole) l1 c1 k1
  have b1 := F1.binds (ps := ["value", "low", "high"]) fun _ _ _ _ _ _ us hl => match us, hl with | [_, _, _], _ => rfl
  have F2 := fun_mk (st := s_check_shares) l2 c2 k2
  have b2 := F2.binds (ps := ["shares"]) fun _ _ _ _ _ _ us hl => match us, hl with | [_], _ => rfl
  have F3 := fun_mk (st := s_check_counts) l3 c3 k3
  have b3 := F3.binds (ps := ["counts", "many"]) fun _ _ _ _ _ _ us hl => match us, hl with | [_, _], _ => rfl
  have F4 := fun_mk (st := s_check_cap) l4 c4 k4
  have b4 := F4.binds (ps := ["cap", "many"]) fun _ _ _ _ _ _ us hl => match us, hl with | [_, _], _ => rfl
  have F5 := fun_mk (st := s_learnt) l5 c5 k5
  have b5 := F5.binds (ps := ["shares", "counts", "cap"]) fun _ _ _ _ _ _ us hl => match us, hl with | [_, _, _], _ => rfl
  have F6 := fun_mk (st := s_pairs) l6 c6 k6
  have b6 := F6.binds (ps := ["shares"]) fun _ _ _ _ _ _ us hl => match us, hl with | [_], _ => rfl
  have F7 := fun_mk (st := s_codes) l7 c7 k7
  have b7 := F7.binds (ps := ["shares"]) fun _ _ _ _ _ _ us hl => match us, hl with | [_], _ => rfl
  have F8 := fun_mk (st := s_counted) l8 c8 k8
  have b8 := F8.binds (ps := ["signs", "block"]) fun _ _ _ _ _ _ us hl => match us, hl with | [_, _], _ => rfl
  have F9 := fun_mk (st := s_cell_at) l9 c9 k9
  have b9 := F9.binds (ps := ["_law_script", "_law_k"]) fun _ _ _ _ _ _ us hl => match us, hl with | [_, _], _ => rfl
  have F10 := fun_mk (st := s_many_by) l10 c10 k10
  have b10 := F10.binds (ps := ["_law_cell"]) fun _ _ _ _ _ _ us hl => match us, hl with | [_], _ => rfl
  have F11 := fun_mk (st := s_signs_by) l11 c11 k11
  have b11 := F11.binds (ps := ["_law_cell", "_law_many"]) fun _ _ _ _ _ _ us hl => match us, hl with | [_, _], _ => rfl
  have F12 := fun_mk (st := s_check_signs) l12 c12 k12
  have b12 := F12.binds (ps := ["signs"]) fun _ _ _ _ _ _ us hl => match us, hl with | [_], _ => rfl
  have F13 := fun_mk (st := s_Book___init__) l13 c13 k13
  have b13 := F13.binds (ps := ["self", "signs", "size", "cap"]) fun _ _ _ _ _ _ us hl => match us, hl with | [_, _, _, _], _ => rfl
  have F14 := fun_mk (st := s_Learner___init__) l14 c14 k14
  have b14 := F14.binds (ps := ["self", "book"]) fun _ _ _ _ _ _ us hl => match us, hl with | [_, _], _ => rfl
  have F15 := fun_mk (st := s_Learner__learn) l15 c15 k15
  have b15 := F15.binds (ps := ["self"]) fun _ _ _ _ _ _ us hl => match us, hl with | [_], _ => rfl
  have F16 := fun_mk (st := s_Learner_took) l16 c16 k16
  have b16 := F16.binds (ps := ["self", "sign"]) fun _ _ _ _ _ _ us hl => match us, hl with | [_, _], _ => rfl
  have F17 := fun_mk (st := s_check_text) l17 c17 k17
  have b17 := F17.binds (ps := ["signs", "text"]) fun _ _ _ _ _ _ us hl => match us, hl with | [_, _], _ => rfl
  have F18 := fun_mk (st := s_Packer___init__) l18 c18 k18
  have b18 := F18.binds (ps := ["self", "book"]) fun _ _ _ _ _ _ us hl => match us, hl with | [_, _], _ => rfl
  have F19 := fun_mk (st := s_Packer_put) l19 c19 k19
  have b19 := F19.binds (ps := ["self", "part"]) fun _ _ _ _ _ _ us hl => match us, hl with | [_, _], _ => rfl
  have F20 := fun_mk (st := s_pack) l20 c20 k20
  have b20 := F20.binds (ps := ["book", "text"]) fun _ _ _ _ _ _ us hl => match us, hl with | [_, _], _ => rfl
  have F21 := fun_mk (st := s_check_bits) l21 c21 k21
  have b21 := F21.binds (ps := ["bits"]) fun _ _ _ _ _ _ us hl => match us, hl with | [_], _ => rfl
  have F22 := fun_mk (st := s_Unpacker___init__) l22 c22 k22
  have b22 := F22.binds (ps := ["self", "book", "many"]) fun _ _ _ _ _ _ us hl => match us, hl with | [_, _, _], _ => rfl
  have F23 := fun_mk (st := s_Learner_held) l23 c23 k23
  have b23 := F23.binds (ps := ["self"]) fun _ _ _ _ _ _ us hl => match us, hl with | [_], _ => rfl
  have F24 := fun_mk (st := s_Unpacker__arrive) l24 c24 k24
  have b24 := F24.binds (ps := ["self"]) fun _ _ _ _ _ _ us hl => match us, hl with | [_], _ => rfl
  have F25 := fun_mk (st := s_Learner_go_back) l25 c25 k25
  have b25 := F25.binds (ps := ["self", "held"]) fun _ _ _ _ _ _ us hl => match us, hl with | [_, _], _ => rfl
  have F26 := fun_mk (st := s_Unpacker__follow) l26 c26 k26
  have b26 := F26.binds (ps := ["self", "bits"]) fun _ _ _ _ _ _ us hl => match us, hl with | [_, _], _ => rfl
  have F27 := fun_mk (st := s_Unpacker_put) l27 c27 k27
  have b27 := F27.binds (ps := ["self", "bits"]) fun _ _ _ _ _ _ us hl => match us, hl with | [_, _], _ => rfl
  have F28 := fun_mk (st := s_unpack) l28 c28 k28
  have b28 := F28.binds (ps := ["book", "bits", "many"]) fun _ _ _ _ _ _ us hl => match us, hl with | [_, _, _], _ => rfl
  have F29 := fun_mk (st := s_check_text) l29 c29 k29
  have b29 := F29.binds (ps := ["signs", "text"]) fun _ _ _ _ _ _ us hl => match us, hl with | [_, _], _ => rfl
  have F30 := fun_mk (st := s_Packer_put) l30 c30 k30
  have b30 := F30.binds (ps := ["self", "part"]) fun _ _ _ _ _ _ us hl => match us, hl with | [_, _], _ => rfl
  have F31 := fun_mk (st := s_pack) l31 c31 k31
  have b31 := F31.binds (ps := ["book", "text"]) fun _ _ _ _ _ _ us hl => match us, hl with | [_, _], _ => rfl
  have F32 := fun_mk (st := s_written) l32 c32 k32
  have b32 := F32.binds (ps := ["book", "text"]) fun _ _ _ _ _ _ us hl => match us, hl with | [_, _], _ => rfl
  have F33 := fun_mk (st := s_Unpacker___init__) l33 c33 k33
  have b33 := F33.binds (ps := ["self", "book", "many"]) fun _ _ _ _ _ _ us hl => match us, hl with | [_, _, _], _ => rfl
  have F34 := fun_mk (st := s_unpack) l34 c34 k34
  have b34 := F34.binds (ps := ["book", "bits", "many"]) fun _ _ _ _ _ _ us hl => match us, hl with | [_, _, _], _ => rfl
  have F35 := fun_mk (st := s_report) l35 c35 k35
  have b35 := F35.binds (ps := ["book", "text"]) fun _ _ _ _ _ _ us hl => match us, hl with | [_, _], _ => rfl
  have F36 := fun_mk (st := s_kinds) l36 c36 k36
  have b36 := F36.binds (ps := ["_law_e"]) fun _ _ _ _ _ _ us hl => match us, hl with | [_], _ => rfl
  have F37 := fun_mk (st := s_told) l37 c37 k37
  have b37 := F37.binds (ps := ["_law_call"]) fun _ _ _ _ _ _ us hl => match us, hl with | [_], _ => rfl
  have F38 := fun_mk (st := s_count_drawn) l38 c38 k38
  have b38 := F38.binds (ps := ["_law_cell", "_law_many"]) fun _ _ _ _ _ _ us hl => match us, hl with | [_, _], _ => rfl
  have F39 := fun_mk (st := s_count_due) l39 c39 k39
  have b39 := F39.binds (ps := ["_law_thing"]) fun _ _ _ _ _ _ us hl => match us, hl with | [_], _ => rfl
  have F40 := fun_mk (st := s_put_in) l40 c40 k40
  have b40 := F40.binds (ps := ["_law_row", "_law_at", "_law_sign"]) fun _ _ _ _ _ _ us hl => match us, hl with | [_, _, _], _ => rfl
  have F41 := fun_mk (st := s_stands) l41 c41 k41
  have b41 := F41.binds (ps := ["_law_found"]) fun _ _ _ _ _ _ us hl => match us, hl with | [_], _ => rfl
  have F42 := fun_mk (st := s_goes_on) l42 c42 k42
  have b42 := F42.binds (ps := ["_law_book", "_law_text", "_law_bits", "_law_odd", "_law_at"]) fun _ _ _ _ _ _ us hl => match us, hl with | [_, _, _, _, _], _ => rfl
  have F43 := fun_mk (st := s_text_by) l43 c43 k43
  have b43 := F43.binds (ps := ["_law_script", "_law_first", "_law_signs", "_law_size"]) fun _ _ _ _ _ _ us hl => match us, hl with | [_, _, _, _], _ => rfl
  have F44 := fun_mk (st := s_book_by) l44 c44 k44
  have b44 := F44.binds (ps := ["_law_script"]) fun _ _ _ _ _ _ us hl => match us, hl with | [_], _ => rfl
  have F45 := fun_mk (st := s_law) l45 c45 k45
  have mem42 : (("_law_goes_on" : Str), lc42, lP42) ∈ ([(("_law_goes_on" : Str), lc42, lP42), (("law" : Str), lc45, lP45)] : List (Str × Addr × Addr)) := by simp
  have hm42 : (lP42, lq "_law_goes_on") ∈ tlOf [(("_law_goes_on" : Str), lc42, lP42), (("law" : Str), lc45, lP45)] := List.mem_map.mpr ⟨_, mem42, rfl⟩
  have hu42 : ∀ p ∈ tlOf [(("_law_goes_on" : Str), lc42, lP42), (("law" : Str), lc45, lP45)], p.1 = lP42 → p.2 = lq "_law_goes_on" := (hu_two dn).1
  have mem45 : (("law" : Str), lc45, lP45) ∈ ([(("_law_goes_on" : Str), lc42, lP42), (("law" : Str), lc45, lP45)] : List (Str × Addr × Addr)) := by simp
  have hm45 : (lP45, lq "law") ∈ tlOf [(("_law_goes_on" : Str), lc42, lP42), (("law" : Str), lc45, lP45)] := List.mem_map.mpr ⟨_, mem45, rfl⟩
  have hu45 : ∀ p ∈ tlOf [(("_law_goes_on" : Str), lc42, lP42), (("law" : Str), lc45, lP45)], p.1 = lP45 → p.2 = lq "law" := (hu_two dn).2
  refine ⟨fun e he => ?_, ?_⟩
  · rcases List.mem_cons.mp he with rfl | he
    · exact tabIn_of a42 l42 m42 n42 o42
    · rw [List.mem_singleton.mp he]; exact tabIn_of a45 l45 m45 n45 o45
  refine ⟨PySem.W.fnOf "law" "law" (defArgs s_law) (defBody s_law) (defScope s_law) .none kV45 dc45 pm45 an45 cd45 ct45, fun s v => .of_eq rfl, fun base _ _ hTB => ?_⟩
  have C0 : Cal l.prog w K mg base "is_whole" ["value", "low", "high"] 1 sp_isV := ⟨_, _, ok_is_whole_Vx T F0, PySem.W.mg_of X G a0, F0.kp, b0⟩
  have C1 : Cal l.prog w K mg base "is_whole" ["value", "low", "high"] 1 sp_isw := ⟨_, _, ok_is_whole T F1, PySem.W.mg_of X G a1, F1.kp, b1⟩
  have C2 : Cal l.prog w K mg base "check_shares" ["shares"] 2 (sp_chkS K) := ⟨_, _, ok_check_shares T F2 C1, PySem.W.mg_of X G a2, F2.kp, b2⟩
  have C3 : Cal l.prog w K mg base "check_counts" ["counts", "many"] 2 (sp_chkC K) := ⟨_, _, ok_check_counts T F3 C1, PySem.W.mg_of X G a3, F3.kp, b3⟩
  have C4 : Cal l.prog w K mg base "check_cap" ["cap", "many"] 2 sp_chkP := ⟨_, _, ok_check_cap T F4 C1, PySem.W.mg_of X G a4, F4.kp, b4⟩
  have C5 : Cal l.prog w K mg base "learnt" ["shares", "counts", "cap"] 3 (sp_learnt K) := ⟨_, _, ok_learnt T F5 C2 C3 C4, PySem.W.mg_of X G a5, F5.kp, b5⟩
  have C6 : Cal l.prog w K mg base "pairs" ["shares"] 3 (sp_pairs K) := ⟨_, _, ok_pairs T F6 C2, PySem.W.mg_of X G a6, F6.kp, b6⟩
  have C7 : Cal l.prog w K mg base "codes" ["shares"] 4 (sp_codes K) := ⟨_, _, ok_codes T F7 C6, PySem.W.mg_of X G a7, F7.kp, b7⟩
  have C8 : Cal l.prog w K mg base "counted" ["signs", "block"] 1 sp_counted := ⟨_, _, ok_counted T F8, PySem.W.mg_of X G a8, F8.kp, b8⟩
  have C9 : Cal l.prog w K mg base "_law_cell_at" ["_law_script", "_law_k"] 1 (sp_cell K) := ⟨_, _, ok_cell_at T F9, PySem.W.mg_of X G a9, F9.kp, b9⟩
  have C10 : Cal l.prog w K mg base "_law_many_by" ["_law_cell"] 1 sp_many := ⟨_, _, ok_many_by T F10, PySem.W.mg_of X G a10, F10.kp, b10⟩
  have C11 : Cal l.prog w K mg base "_law_signs_by" ["_law_cell", "_law_many"] 1 sp_signs := ⟨_, _, ok_signs_by T F11, PySem.W.mg_of X G a11, F11.kp, b11⟩
  have C12 : Cal l.prog w K mg base "check_signs" ["signs"] 1 sp_chkG := ⟨_, _, ok_check_signs T F12, PySem.W.mg_of X G a12, F12.kp, b12⟩
  have C13 : Mkr l.prog w K mg base "Book" ["self", "signs", "size", "cap"] 2 (sp_Binit mg) := ⟨_, _, (by rw [ec_Book]; exact ⟨mk_Book, a13, i13, kc_Book⟩), ok_Book___init__ T F13 C12 C1, (by rw [ec_Book]; exact hc_Book), b13⟩
  have C14 : Mkr l.prog w K mg base "Learner" ["self", "book"] 5 (sp_Linit mg) := ⟨_, _, (by rw [ec_Learner]; exact ⟨mk_Learner, a14, i14, kc_Learner⟩), ok_Learner___init__ T F14 C7, (by rw [ec_Learner]; exact hc_Learner), b14⟩
  have C15 : Met l.prog w K mg base "Learner" "_learn" ["self"] 5 (sp_learn mg) := ⟨_, _, cl_Learner, (by rw [ec_Learner]; exact ⟨a15, i15, k15⟩), ok_Learner__learn T F15 C8 C5 C7, b15⟩
  have C16 : Met l.prog w K mg base "Learner" "took" ["self", "sign"] 6 (sp_took mg) := ⟨_, _, cl_Learner, (by rw [ec_Learner]; exact ⟨a16, i16, k16⟩), ok_Learner_took T F16 C15, b16⟩
  have C17 : Cal l.prog w K mg base "check_text" ["signs", "text"] 1 sp_chkT := ⟨_, _, ok_check_text T F17, PySem.W.mg_of X G a17, F17.kp, b17⟩
  have C18 : Mkr l.prog w K mg base "Packer" ["self", "book"] 7 (sp_Pinit mg) := ⟨_, _, (by rw [ec_Packer]; exact ⟨mk_Packer, a18, i18, kc_Packer⟩), ok_Packer___init__ T F18 C14, (by rw [ec_Packer]; exact hc_Packer), b18⟩
  have C19 : Met l.prog w K mg base "Packer" "put" ["self", "part"] 7 (sp_Pput mg) := ⟨_, _, cl_Packer, (by rw [ec_Packer]; exact ⟨a19, i19, k19⟩), ok_Packer_put T F19 C17 C16, b19⟩
  have C20 : Cal l.prog w K mg base "pack" ["book", "text"] 9 (sp_pack mg) := ⟨_, _, ok_pack T F20 C19 C18, PySem.W.mg_of X G a20, F20.kp, b20⟩
  have C21 : CalX l.prog w K mg base "check_bits" ["bits"] 1 (sp_xB mg) := ⟨_, _, ok_check_bits T F21, PySem.W.mg_of X G a21, F21.kp, b21⟩
  have C22 : MkrX l.prog w K mg base "Unpacker" ["self", "book", "many"] 7 (sp_xUinit mg) := ⟨_, _, (by rw [ec_Unpacker]; exact ⟨mk_Unpacker, a22, i22, kc_Unpacker⟩), ok_Unpacker___init__ T F22 C14 C1, (by rw [ec_Unpacker]; exact hc_Unpacker), b22⟩
  have C23 : Met l.prog w K mg base "Learner" "held" ["self"] 1 (sp_Lheld mg) := ⟨_, _, cl_Learner, (by rw [ec_Learner]; exact ⟨a23, i23, k23⟩), ok_Learner_held T F23, b23⟩
  have C24 : Met l.prog w K mg base "Unpacker" "_arrive" ["self"] 7 (sp_Uarr mg) := ⟨_, _, cl_Unpacker, (by rw [ec_Unpacker]; exact ⟨a24, i24, k24⟩), ok_Unpacker__arrive T F24 C16, b24⟩
  have C25 : Met l.prog w K mg base "Learner" "go_back" ["self", "held"] 1 (sp_Lback mg) := ⟨_, _, cl_Learner, (by rw [ec_Learner]; exact ⟨a25, i25, k25⟩), ok_Learner_go_back T F25, b25⟩
  have C26 : Met l.prog w K mg base "Unpacker" "_follow" ["self", "bits"] 8 (sp_Ufol mg) := ⟨_, _, cl_Unpacker, (by rw [ec_Unpacker]; exact ⟨a26, i26, k26⟩), ok_Unpacker__follow T F26 C24, b26⟩
  have C27 : MetX l.prog w K mg base "Unpacker" "put" ["self", "bits"] 9 (sp_xput mg) := ⟨_, _, cl_Unpacker, (by rw [ec_Unpacker]; exact ⟨a27, i27, k27⟩), ok_Unpacker_put T F27 C21 C26 C23 C25, b27⟩
  have C28 : CalX l.prog w K mg base "unpack" ["book", "bits", "many"] 10 (sp_xunpack mg) := ⟨_, _, ok_unpack T F28 C22 C27, PySem.W.mg_of X G a28, F28.kp, b28⟩
  have C29 : CalX l.prog w K mg base "check_text" ["signs", "text"] 1 (sp_xT mg) := ⟨_, _, ok_check_text_Vx T F29, PySem.W.mg_of X G a29, F29.kp, b29⟩
  have C30 : MetX l.prog w K mg base "Packer" "put" ["self", "part"] 2 (sp_xPput mg) := ⟨_, _, cl_Packer, (by rw [ec_Packer]; exact ⟨a30, i30, k30⟩), ok_Packer_put_Vx T F30 C29, b30⟩
  have C31 : CalX l.prog w K mg base "pack" ["book", "text"] 9 (sp_xpack mg) := ⟨_, _, ok_pack_Vx T F31 C30 C18, PySem.W.mg_of X G a31, F31.kp, b31⟩
  have C32 : CalX l.prog w K mg base "written" ["book", "text"] 10 (sp_xwritten mg) := ⟨_, _, ok_written_Vx T F32 C31, PySem.W.mg_of X G a32, F32.kp, b32⟩
  have C33 : MkrX l.prog w K mg base "Unpacker" ["self", "book", "many"] 2 (sp_yUinit mg) := ⟨_, _, (by rw [ec_Unpacker]; exact ⟨mk_Unpacker, a33, i33, kc_Unpacker⟩), ok_Unpacker___init___Vx T F33 C0, (by rw [ec_Unpacker]; exact hc_Unpacker), b33⟩
  have C34 : CalX l.prog w K mg base "unpack" ["book", "bits", "many"] 4 (sp_yunpack mg) := ⟨_, _, ok_unpack_Vx T F34 C33, PySem.W.mg_of X G a34, F34.kp, b34⟩
  have C35 : CalX l.prog w K mg base "report" ["book", "text"] 9 (sp_xwritten mg) := ⟨_, _, ok_report_Vx T F35 C18 C19 C30, PySem.W.mg_of X G a35, F35.kp, b35⟩
  have C36 : CalE l.prog w K mg base "_law_kinds" ["_law_e"] 1 (sp_kinds mg) := ⟨_, _, ok_kinds T F36, PySem.W.mg_of X G a36, F36.kp, b36⟩
  have C37 : CalA l.prog w K mg base "_law_told" "_law_call" 13 12 (spA_told mg) := ⟨_, _, ok_told T F37 C36, PySem.W.mg_of X G a37, F37.kp, b37⟩
  have C38 : Cal l.prog w K mg base "_law_count_drawn" ["_law_cell", "_law_many"] 1 (sp_cntDrawn K) := ⟨_, _, ok_count_drawn T F38, PySem.W.mg_of X G a38, F38.kp, b38⟩
  have C39 : Cal l.prog w K mg base "_law_count_due" ["_law_thing"] 1 sp_cntDue := ⟨_, _, ok_count_due T F39, PySem.W.mg_of X G a39, F39.kp, b39⟩
  have C40 : Cal l.prog w K mg base "_law_put_in" ["_law_row", "_law_at", "_law_sign"] 1 sp_putIn := ⟨_, _, ok_put_in T F40, PySem.W.mg_of X G a40, F40.kp, b40⟩
  have C41 : Cal l.prog w K mg base "_law_stands" ["_law_found"] 1 (sp_stands mg K) := ⟨_, _, ok_stands T F41, PySem.W.mg_of X G a41, F41.kp, b41⟩
  have C42 : Cal l.prog w K mg base "_law_goes_on" ["_law_book", "_law_text", "_law_bits", "_law_odd", "_law_at"] 14 (sp_goes (tlOf [(("_law_goes_on" : Str), lc42, lP42), (("law" : Str), lc45, lP45)]) mg) := ⟨_, _, ok_goes_on T F42 m42 (hTB _ mem42) hm42 hu42 C18 C19 C41 C22 C27 C37 C40 C30 C35 C32, PySem.W.mg_of X G a42, F42.kp, b42⟩
  have C43 : Cal l.prog w K mg base "_law_text_by" ["_law_script", "_law_first", "_law_signs", "_law_size"] 2 (sp_textBy K) := ⟨_, _, ok_text_by T F43 C9, PySem.W.mg_of X G a43, F43.kp, b43⟩
  have C44 : Cal l.prog w K mg base "_law_book_by" ["_law_script"] 2 (sp_bookBy K) := ⟨_, _, ok_book_by T F44 C10 C11 C9, PySem.W.mg_of X G a44, F44.kp, b44⟩
  exact ok_law T F45 m45 (hTB _ mem45) hm45 hu45 C44 C13 C43 C20 C11 C38 C9 C37 C42 C39 C27 C22 C28 C31 C33 C34
end SP
open PySem PySem.W PyProof.Rows
set_option maxRecDepth 100000 in
set_option maxHeartbeats 0 in
theorem PySem.Challenge.cw_sharepack_k10_refused_bits_holds : PySem.Challenge.rw_sharepack_k10_refused_bits.Holds := by
  w_on; o_law; k_head; (case hw => w_witness2)
  k_fill
  refine SP.walk_tabs (l := PySem.Challenge.rw_sharepack_k10_refused_bits) (n := 63) (k := 15) (x := "_law_script") (CX := fun _ => L2.CX0) rfl (by decide) rfl ⟨rfl, by decide, by decide⟩ (fun w h Y => PySem.W.km_in_of Y) ?F (fun _ _ _ _ _ h => h)
  case F =>
    intro w mg fa h Y KX G hmg TT
    refine' SP.law_at (n := 63) KX ?nt TT ?finds (fun H a ns hl ht hS => SP.law_startN hl ht hS) (SP.all_mk KX G hmg ?zc_BadBit ?zc_BadBook ?zc_BadCount ?zc_BadLine ?zc_BadShares ?zc_BadSign ?zc_Book ?zc_Learner ?zc_Loose ?zc_PackError ?zc_Packer ?zc_Short ?zc_Unpacker ?a0 ?l0 ?c0 ?k0 ?a1 ?l1 ?c1 ?k1 ?a2 ?l2 ?c2 ?k2 ?a3 ?l3 ?c3 ?k3 ?a4 ?l4 ?c4 ?k4 ?a5 ?l5 ?c5 ?k5 ?a6 ?l6 ?c6 ?k6 ?a7 ?l7 ?c7 ?k7 ?a8 ?l8 ?c8 ?k8 ?a9 ?l9 ?c9 ?k9 ?a10 ?l10 ?c10 ?k10 ?a11 ?l11 ?c11 ?k11 ?a12 ?l12 ?c12 ?k12 ?a13 ?i13 ?l13 ?c13 ?k13 ?a14 ?i14 ?l14 ?c14 ?k14 ?a15 ?i15 ?l15 ?c15 ?k15 ?a16 ?i16 ?l16 ?c16 ?k16 ?a17 ?l17 ?c17 ?k17 ?a18 ?i18 ?l18 ?c18 ?k18 ?a19 ?i19 ?l19 ?c19 ?k19 ?a20 ?l20 ?c20 ?k20 ?a21 ?l21 ?c21 ?k21 ?a22 ?i22 ?l22 ?c22 ?k22 ?a23 ?i23 ?l23 ?c23 ?k23 ?a24 ?i24 ?l24 ?c24 ?k24 ?a25 ?i25 ?l25 ?c25 ?k25 ?a26 ?i26 ?l26 ?c26 ?k26 ?a27 ?i27 ?l27 ?c27 ?k27 ?a28 ?l28 ?c28 ?k28 ?a29 ?l29 ?c29 ?k29 ?a30 ?i30 ?l30 ?c30 ?k30 ?a31 ?l31 ?c31 ?k31 ?a32 ?l32 ?c32 ?k32 ?a33 ?i33 ?l33 ?c33 ?k33 ?a34 ?l34 ?c34 ?k34 ?a35 ?l35 ?c35 ?k35 ?a36 ?l36 ?c36 ?k36 ?a37 ?l37 ?c37 ?k37 ?a38 ?l38 ?c38 ?k38 ?a39 ?l39 ?c39 ?k39 ?a40 ?l40 ?c40 ?k40 ?a41 ?l41 ?c41 ?k41 ?a42 ?l42 ?c42 ?k42 ?m42 ?n42 ?o42 ?a43 ?l43 ?c43 ?k43 ?a44 ?l44 ?c44 ?k44 ?a45 ?l45 ?c45 ?k45 ?m45 ?n45 ?o45 ?dn ?zb_ValueError ?zb_bool ?zb_enumerate ?zb_int ?zb_isinstance ?zb_len ?zb_list ?zb_max ?zb_range ?zb_reversed ?zb_str ?zb_sum ?zb_zip ?pg_Book ?hd_Book ?po_Book ?sa_Book ?pg_Learner ?hd_Learner ?po_Learner ?sa_Learner ?pg_Packer ?hd_Packer ?po_Packer ?sa_Packer ?pg_Unpacker ?hd_Unpacker ?po_Unpacker ?sa_Unpacker ?zn_Book_cap ?zn_Book_signs ?zn_Book_size ?zn_Learner__book ?zn_Learner_shares ?zn_Learner_waits ?zn_Learner_words ?zn_Packer__signs ?zn_Packer_learner ?zn_Unpacker__signs ?zn_Unpacker__way ?zn_Unpacker_learner ?zn_Unpacker_left ?zg_GREATEST_CAP ?zg_GREATEST_SHARE ?zg_LONGEST_BLOCK ?zg_LONGEST_TEXT ?zg_MOST_SHARES ?zg_heapify ?zg_heappop ?zg_heappush ?zx1_BadBit ?zx2_BadBit ?zx3_BadBit ?zx4_BadBit ?zx1_BadCount ?zx2_BadCount ?zx3_BadCount ?zx4_BadCount ?zx1_BadSign ?zx2_BadSign ?zx3_BadSign ?zx4_BadSign ?zx1_Loose ?zx2_Loose ?zx3_Loose ?zx4_Loose ?zx1_Short ?zx2_Short ?zx3_Short ?zx4_Short ?zs_BadBit_BadBit ?zh_BadBit ?zs_BadBit_BadCount ?zh_BadCount ?zs_BadCount_BadCount ?zs_BadSign_BadBit ?zs_BadSign_BadCount ?zs_BadSign_BadSign ?zh_BadSign ?zs_BadSign_Loose ?zh_Loose ?zs_BadSign_Short ?zh_Short ?zs_Loose_BadBit ?zs_Loose_BadCount ?zs_Loose_Loose ?zs_Short_BadBit ?zs_Short_BadCount ?zs_Short_Loose ?zs_Short_Short ?zq1_BadBit ?zq2_BadBit ?zk1_BadBit ?zk2_BadBit ?zk3_BadBit ?zk4_BadBit ?zi_BadBit_BadBook ?zi_BadBit_BadShares ?zi_BadBit_BadSign ?zi_BadBit_BadCount ?zi_BadBit_Loose ?zi_BadBit_Short ?zi_BadBit_BadLine ?zi_BadBit_PackError ?zv_BadBit ?zq1_BadCount ?zq2_BadCount ?zk1_BadCount ?zk2_BadCount ?zk3_BadCount ?zk4_BadCount ?zi_BadCount_BadBook ?zi_BadCount_BadShares ?zi_BadCount_BadSign ?zi_BadCount_BadBit ?zi_BadCount_Loose ?zi_BadCount_Short ?zi_BadCount_BadLine ?zi_BadCount_PackError ?zv_BadCount ?zq1_BadSign ?zq2_BadSign ?zk1_BadSign ?zk2_BadSign ?zk3_BadSign ?zk4_BadSign ?zi_BadSign_BadBook ?zi_BadSign_BadShares ?zi_BadSign_BadCount ?zi_BadSign_BadBit ?zi_BadSign_Loose ?zi_BadSign_Short ?zi_BadSign_BadLine ?zi_BadSign_PackError ?zv_BadSign ?zq1_Loose ?zq2_Loose ?zk1_Loose ?zk2_Loose ?zk3_Loose ?zk4_Loose ?zi_Loose_BadBook ?zi_Loose_BadShares ?zi_Loose_BadSign ?zi_Loose_BadCount ?zi_Loose_BadBit ?zi_Loose_Short ?zi_Loose_BadLine ?zi_Loose_PackError ?zv_Loose ?zq1_Short ?zq2_Short ?zk1_Short ?zk2_Short ?zk3_Short ?zk4_Short ?zi_Short_BadBook ?zi_Short_BadShares ?zi_Short_BadSign ?zi_Short_BadCount ?zi_Short_BadBit ?zi_Short_Loose ?zi_Short_BadLine ?zi_Short_PackError ?zv_Short ?mk_Book ?kc_Book ?mk_Learner ?kc_Learner ?mk_Packer ?kc_Packer ?mk_Unpacker ?kc_Unpacker)
    (case zc_BadBit => k_is)
    (case zc_BadBook => k_is)
    (case zc_BadCount => k_is)
    (case zc_BadLine => k_is)
    (case zc_BadShares => k_is)
    (case zc_BadSign => k_is)
    (case zc_Book => k_is)
    (case zc_Learner => k_is)
    (case zc_Loose => k_is)
    (case zc_PackError => k_is)
    (case zc_Packer => k_is)
    (case zc_Short => k_is)
    (case zc_Unpacker => k_is)
    (case a0 => k_is)
    (case l0 => k_is)
    (case c0 => k_is)
    (case k0 => k_is)
    (case a1 => k_is)
    (case l1 => k_is)
    (case c1 => k_is)
    (case k1 => k_is)
    (case a2 => k_is)
    (case l2 => k_is)
    (case c2 => k_is)
    (case k2 => k_is)
    (case a3 => k_is)
    (case l3 => k_is)
    (case c3 => k_is)
    (case k3 => k_is)
    (case a4 => k_is)
    (case l4 => k_is)
    (case c4 => k_is)
    (case k4 => k_is)
    (case a5 => k_is)
    (case l5 => k_is)
    (case c5 => k_is)
    (case k5 => k_is)
    (case a6 => k_is)
    (case l6 => k_is)
    (case c6 => k_is)
    (case k6 => k_is)
    (case a7 => k_is)
    (case l7 => k_is)
    (case c7 => k_is)
    (case k7 => k_is)
    (case a8 => k_is)
    (case l8 => k_is)
    (case c8 => k_is)
    (case k8 => k_is)
    (case a9 => k_is)
    (case l9 => k_is)
    (case c9 => k_is)
    (case k9 => k_is)
    (case a10 => k_is)
    (case l10 => k_is)
    (case c10 => k_is)
    (case k10 => k_is)
    (case a11 => k_is)
    (case l11 => k_is)
    (case c11 => k_is)
    (case k11 => k_is)
    (case a12 => k_is)
    (case l12 => k_is)
    (case c12 => k_is)
    (case k12 => k_is)
    (case a13 => k_is)
    (case i13 => k_is)
    (case l13 => k_is)
    (case c13 => k_is)
    (case k13 => k_is)
    (case a14 => k_is)
    (case i14 => k_is)
    (case l14 => k_is)
    (case c14 => k_is)
    (case k14 => k_is)
    (case a15 => k_is)
    (case i15 => k_is)
    (case l15 => k_is)
    (case c15 => k_is)
    (case k15 => k_is)
    (case a16 => k_is)
    (case i16 => k_is)
    (case l16 => k_is)
    (case c16 => k_is)
    (case k16 => k_is)
    (case a17 => k_is)
    (case l17 => k_is)
    (case c17 => k_is)
    (case k17 => k_is)
    (case a18 => k_is)
    (case i18 => k_is)
    (case l18 => k_is)
    (case c18 => k_is)
    (case k18 => k_is)
    (case a19 => k_is)
    (case i19 => k_is)
    (case l19 => k_is)
    (case c19 => k_is)
    (case k19 => k_is)
    (case a20 => k_is)
    (case l20 => k_is)
    (case c20 => k_is)
    (case k20 => k_is)
    (case a21 => k_is)
    (case l21 => k_is)
    (case c21 => k_is)
    (case k21 => k_is)
    (case a22 => k_is)
    (case i22 => k_is)
    (case l22 => k_is)
    (case c22 => k_is)
    (case k22 => k_is)
    (case a23 => k_is)
    (case i23 => k_is)
    (case l23 => k_is)
    (case c23 => k_is)
    (case k23 => k_is)
    (case a24 => k_is)
    (case i24 => k_is)
    (case l24 => k_is)
    (case c24 => k_is)
    (case k24 => k_is)
    (case a25 => k_is)
    (case i25 => k_is)
    (case l25 => k_is)
    (case c25 => k_is)
    (case k25 => k_is)
    (case a26 => k_is)
    (case i26 => k_is)
    (case l26 => k_is)
    (case c26 => k_is)
    (case k26 => k_is)
    (case a27 => k_is)
    (case i27 => k_is)
    (case l27 => k_is)
    (case c27 => k_is)
    (case k27 => k_is)
    (case a28 => k_is)
    (case l28 => k_is)
    (case c28 => k_is)
    (case k28 => k_is)
    (case a29 => k_is)
    (case l29 => k_is)
    (case c29 => k_is)
    (case k29 => k_is)
    (case a30 => k_is)
    (case i30 => k_is)
    (case l30 => k_is)
    (case c30 => k_is)
    (case k30 => k_is)
    (case a31 => k_is)
    (case l31 => k_is)
    (case c31 => k_is)
    (case k31 => k_is)
    (case a32 => k_is)
    (case l32 => k_is)
    (case c32 => k_is)
    (case k32 => k_is)
    (case a33 => k_is)
    (case i33 => k_is)
    (case l33 => k_is)
    (case c33 => k_is)
    (case k33 => k_is)
    (case a34 => k_is)
    (case l34 => k_is)
    (case c34 => k_is)
    (case k34 => k_is)
    (case a35 => k_is)
    (case l35 => k_is)
    (case c35 => k_is)
    (case k35 => k_is)
    (case a36 => k_is)
    (case l36 => k_is)
    (case c36 => k_is)
    (case k36 => k_is)
    (case a37 => k_is)
    (case l37 => k_is)
    (case c37 => k_is)
    (case k37 => k_is)
    (case a38 => k_is)
    (case l38 => k_is)
    (case c38 => k_is)
    (case k38 => k_is)
    (case a39 => k_is)
    (case l39 => k_is)
    (case c39 => k_is)
    (case k39 => k_is)
    (case a40 => k_is)
    (case l40 => k_is)
    (case c40 => k_is)
    (case k40 => k_is)
    (case a41 => k_is)
    (case l41 => k_is)
    (case c41 => k_is)
    (case k41 => k_is)
    (case a42 => k_is)
    (case l42 => k_is)
    (case c42 => k_is)
    (case k42 => k_is)
    (case m42 => exact rfl)
    (case n42 => k_is)
    (case o42 => exact rfl)
    (case a43 => k_is)
    (case l43 => k_is)
    (case c43 => k_is)
    (case k43 => k_is)
    (case a44 => k_is)
    (case l44 => k_is)
    (case c44 => k_is)
    (case k44 => k_is)
    (case a45 => k_is)
    (case l45 => k_is)
    (case c45 => k_is)
    (case k45 => k_is)
    (case m45 => exact rfl)
    (case n45 => k_is)
    (case o45 => exact rfl)
    (case dn => decide)
    (case zb_ValueError => k_is)
    (case zb_bool => k_is)
    (case zb_enumerate => k_is)
    (case zb_int => k_is)
    (case zb_isinstance => k_is)
    (case zb_len => k_is)
    (case zb_list => k_is)
    (case zb_max => k_is)
    (case zb_range => k_is)
    (case zb_reversed => k_is)
    (case zb_str => k_is)
    (case zb_sum => k_is)
    (case zb_zip => k_is)
    (case pg_Book => k_is)
    (case hd_Book => k_is)
    (case po_Book => k_is)
    (case sa_Book => k_is)
    (case pg_Learner => k_is)
    (case hd_Learner => k_is)
    (case po_Learner => k_is)
    (case sa_Learner => k_is)
    (case pg_Packer => k_is)
    (case hd_Packer => k_is)
    (case po_Packer => k_is)
    (case sa_Packer => k_is)
    (case pg_Unpacker => k_is)
    (case hd_Unpacker => k_is)
    (case po_Unpacker => k_is)
    (case sa_Unpacker => k_is)
    (case zn_Book_cap => k_is)
    (case zn_Book_signs => k_is)
    (case zn_Book_size => k_is)
    (case zn_Learner__book => k_is)
    (case zn_Learner_shares => k_is)
    (case zn_Learner_waits => k_is)
    (case zn_Learner_words => k_is)
    (case zn_Packer__signs => k_is)
    (case zn_Packer_learner => k_is)
    (case zn_Unpacker__signs => k_is)
    (case zn_Unpacker__way => k_is)
    (case zn_Unpacker_learner => k_is)
    (case zn_Unpacker_left => k_is)
    (case zg_GREATEST_CAP => k_is)
    (case zg_GREATEST_SHARE => k_is)
    (case zg_LONGEST_BLOCK => k_is)
    (case zg_LONGEST_TEXT => k_is)
    (case zg_MOST_SHARES => k_is)
    (case zg_heapify => k_is)
    (case zg_heappop => k_is)
    (case zg_heappush => k_is)
    (case zx1_BadBit => k_exc)
    (case zx2_BadBit => k_is)
    (case zx3_BadBit => k_is)
    (case zx4_BadBit => k_is)
    (case zx1_BadCount => k_exc)
    (case zx2_BadCount => k_is)
    (case zx3_BadCount => k_is)
    (case zx4_BadCount => k_is)
    (case zx1_BadSign => k_exc)
    (case zx2_BadSign => k_is)
    (case zx3_BadSign => k_is)
    (case zx4_BadSign => k_is)
    (case zx1_Loose => k_exc)
    (case zx2_Loose => k_is)
    (case zx3_Loose => k_is)
    (case zx4_Loose => k_is)
    (case zx1_Short => k_exc)
    (case zx2_Short => k_is)
    (case zx3_Short => k_is)
    (case zx4_Short => k_is)
    (case zs_BadBit_BadBit => k_is)
    (case zh_BadBit => k_is)
    (case zs_BadBit_BadCount => k_is)
    (case zh_BadCount => k_is)
    (case zs_BadCount_BadCount => k_is)
    (case zs_BadSign_BadBit => k_is)
    (case zs_BadSign_BadCount => k_is)
    (case zs_BadSign_BadSign => k_is)
    (case zh_BadSign => k_is)
    (case zs_BadSign_Loose => k_is)
    (case zh_Loose => k_is)
    (case zs_BadSign_Short => k_is)
    (case zh_Short => k_is)
    (case zs_Loose_BadBit => k_is)
    (case zs_Loose_BadCount => k_is)
    (case zs_Loose_Loose => k_is)
    (case zs_Short_BadBit => k_is)
    (case zs_Short_BadCount => k_is)
    (case zs_Short_Loose => k_is)
    (case zs_Short_Short => k_is)
    (case zq1_BadBit => k_is)
    (case zq2_BadBit => k_is)
    (case zk1_BadBit => k_is)
    (case zk2_BadBit => k_is)
    (case zk3_BadBit => k_is)
    (case zk4_BadBit => k_is)
    (case zi_BadBit_BadBook => kit_is)
    (case zi_BadBit_BadShares => kit_is)
    (case zi_BadBit_BadSign => kit_is)
    (case zi_BadBit_BadCount => kit_is)
    (case zi_BadBit_Loose => kit_is)
    (case zi_BadBit_Short => kit_is)
    (case zi_BadBit_BadLine => kit_is)
    (case zi_BadBit_PackError => kit_is)
    (case zv_BadBit => kit_is)
    (case zq1_BadCount => k_is)
    (case zq2_BadCount => k_is)
    (case zk1_BadCount => k_is)
    (case zk2_BadCount => k_is)
    (case zk3_BadCount => k_is)
    (case zk4_BadCount => k_is)
    (case zi_BadCount_BadBook => kit_is)
    (case zi_BadCount_BadShares => kit_is)
    (case zi_BadCount_BadSign => kit_is)
    (case zi_BadCount_BadBit => kit_is)
    (case zi_BadCount_Loose => kit_is)
    (case zi_BadCount_Short => kit_is)
    (case zi_BadCount_BadLine => kit_is)
    (case zi_BadCount_PackError => kit_is)
    (case zv_BadCount => kit_is)
    (case zq1_BadSign => k_is)
    (case zq2_BadSign => k_is)
    (case zk1_BadSign => k_is)
    (case zk2_BadSign => k_is)
    (case zk3_BadSign => k_is)
    (case zk4_BadSign => k_is)
    (case zi_BadSign_BadBook => kit_is)
    (case zi_BadSign_BadShares => kit_is)
    (case zi_BadSign_BadCount => kit_is)
    (case zi_BadSign_BadBit => kit_is)
    (case zi_BadSign_Loose => kit_is)
    (case zi_BadSign_Short => kit_is)
    (case zi_BadSign_BadLine => kit_is)
    (case zi_BadSign_PackError => kit_is)
    (case zv_BadSign => kit_is)
    (case zq1_Loose => k_is)
    (case zq2_Loose => k_is)
    (case zk1_Loose => k_is)
    (case zk2_Loose => k_is)
    (case zk3_Loose => k_is)
    (case zk4_Loose => k_is)
    (case zi_Loose_BadBook => kit_is)
    (case zi_Loose_BadShares => kit_is)
    (case zi_Loose_BadSign => kit_is)
    (case zi_Loose_BadCount => kit_is)
    (case zi_Loose_BadBit => kit_is)
    (case zi_Loose_Short => kit_is)
    (case zi_Loose_BadLine => kit_is)
    (case zi_Loose_PackError => kit_is)
    (case zv_Loose => kit_is)
    (case zq1_Short => k_is)
    (case zq2_Short => k_is)
    (case zk1_Short => k_is)
    (case zk2_Short => k_is)
    (case zk3_Short => k_is)
    (case zk4_Short => k_is)
    (case zi_Short_BadBook => kit_is)
    (case zi_Short_BadShares => kit_is)
    (case zi_Short_BadSign => kit_is)
    (case zi_Short_BadCount => kit_is)
    (case zi_Short_BadBit => kit_is)
    (case zi_Short_Loose => kit_is)
    (case zi_Short_BadLine => kit_is)
    (case zi_Short_PackError => kit_is)
    (case zv_Short => kit_is)
    (case mk_Book => k_is)
    (case kc_Book => k_is)
    (case mk_Learner => k_is)
    (case kc_Learner => k_is)
    (case mk_Packer => k_is)
    (case kc_Packer => k_is)
    (case mk_Unpacker => k_is)
    (case kc_Unpacker => k_is)
    (case nt => rfl)
    (case finds => rfl)
