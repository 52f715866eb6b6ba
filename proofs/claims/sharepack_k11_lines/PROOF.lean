import PyProof.Rows.All
import Wide.All
import OpenK.AllK
import Wide.FinOn
import KE.RegKIsAll
import HandS.ForMost
import HandS.Evl
import HandS.Walk
import HandS.IsInst
import HandS.RevRange
import HandS.Gcd
import HandS.Replace
import HandS.TupLe
import HandS.Steps
import HandS.More
import PyProof.ListStr
import KE.Datum
import HandS.Iter
import HandS.ForExc
import HandS.TryMany
import HandS.ExcIs
import HandS.Style
import HandS.StrMore
import HandS.Text
import HandS.FStr
import KE.KIntText
import HandS.HotCalls
import PySem.Challenge.RW_sharepack_k11_lines
set_option Elab.async false
set_option linter.all false
set_option maxRecDepth 100000
set_option maxHeartbeats 4000000
set_option maxHeartbeats 4000000
namespace SP
open PySem L2 Evl

/-- a def of the module, ready to be called -/
structure Cal (P : Program) (w : World) (K : PySem.W.Frag) (mg : Str → Option Value) (base : Heap) (x : Str) (ps : List Str) (k : Nat) (sp : Sp) : Prop where
  ex : ∃ f fd, FnOk P w K mg base CX0 k f fd ps sp ∧ mg x = some (.ref f) ∧ PySem.W.keepIn K (.ref f) = true ∧ Binds K fd ps []

section
variable {X : Cx} {x : Str} {ps : List Str} {k k' : Nat} {sp : Sp} {p pos : Pos} {e : Expr} {es : List Expr} {t : TA}
theorem pe_cal (C : Cal X.prog X.w X.K X.mg X.base x ps k sp) (hr : Room k' X.A) (hk : k ≤ k') (hg : Gl X x) (ha : PA X (e :: es) t)
    (hdb : (x == ("__debug__" : Str)) = false := by decide) (he : starEach (e :: es) X.env = (false, eval e X.env) :: starEach es X.env := by rfl) (hpl : (backTo pos (starEach es X.env)).any (·.1) = false := by rfl) :
    PE X (.Call (.Name x p) (e :: es) [] pos) (tCall sp [] E0 t) := by
  obtain ⟨f, fd, G, m, kp, b⟩ := C.ex
  exact pe_call G (hr.mono hk) hg m kp b .nil pass0 ha hdb he hpl
end

theorem pe_globX {X : Cx} {x : Str} {v : V} {pos : Pos} (hg : Gl X x) (h : ∃ u, X.mg x = some u ∧ RelV v u) (hd : (x == ("__debug__" : Str)) = false := by decide) : PE X (.Name x pos) (tC v) := by
  obtain ⟨u, hm, r⟩ := h
  exact pe_glob hg hm r hd
/-! rules for a comprehension's element: the written part named by a letter -/
section
variable {X : Cx} {K : PySem.W.Frag} {a b o e : Expr} {es : List Expr} {ta tb to : TE} {t : TA} {pos apos cpos : Pos} {name : Str} {T id : String} {r : V → List V → Hp → VK → Prop}
theorem pe_ixLK (hK : X.K = K) (ha : PE X a ta) (hb : PE X b tb) (hs : PlainIx b) : PE X (.Subscript a b pos) (tOp (rIxL K) ta tb) := by
  subst hK
  exact pe_ix ix_list ha hb hs
theorem pe_ixTK (hK : X.K = K) (ha : PE X a ta) (hb : PE X b tb) (hs : PlainIx b) : PE X (.Subscript a b pos) (tOp (rIxT K) ta tb) := by
  subst hK
  exact pe_ix ix_tup ha hb hs
theorem pe_bmK (hK : X.K = K) (pa : PlainAttrs T) (slot : Slot T name id) (hty : typeOf (.builtin id) = pure (.type "method_descriptor")) (hm : MtR X id r) (ho : PE X o to) (ha : PA X (e :: es) t)
    (hbase : attributeBase o name X.env (eval o X.env) = eval o X.env := by rfl)
    (hfew : ((backTo cpos (starEach (e :: es) X.env)).all (fun x => !x.1) && (backToKw cpos (keywordEach [] X.env)).all (fun x => x.1.isSome)
      && decide ((e :: es).length + ([] : List Keyword).length + (if ([] : List Keyword).isEmpty then 0 else 1) < 30)) = true := by rfl)
    (hline : (apos.endLine == cpos.line) = true := by rfl) (hs : starEach (e :: es) X.env = (false, eval e X.env) :: starEach es X.env := by rfl) (hplain : (backTo cpos (starEach es X.env)).any (·.1) = false := by rfl) :
    PE X (.Call (.Attribute o name apos) (e :: es) [] cpos) (tBM K T r to t) := by
  subst hK
  exact pe_bm pa slot hty hm ho ha hbase hfew hline hs hplain
end
section
variable {K : PySem.W.Frag} {σ : L2.St} {H H' : Hp} {ta tb te tx : TE} {t u : TT} {x y z v : V} {r : R2}
theorem ev_cal {sp : Sp} {vs : List V} {E : XK} {ta : TA} (h : EvA ta σ H vs) (hs : SpV sp vs H z) : Ev (tCall sp [] E ta) σ H z :=
  ev_call h (by rw [List.append_nil]; exact hs)
theorem el_cal {sp : Sp} {vs xs : List V} {E : XK} {ta : TA} (h : EvA ta σ H vs) (hs : SpL sp vs H xs) : EvL (tCall sp [] E ta) σ H xs :=
  el_call h (by rw [List.append_nil]; exact hs)
theorem rv_fdiv {i j : Int} (hc : 0 < j ∧ j < 1073741824) : RV (rI CDiv fun i j => .int (i / j)) (.int i) (.int j) H (.int (i / j)) := rv_I hc
theorem rv_mod {i j : Int} (hc : 0 < j) : RV (rI (fun _ j => 0 < j) fun i j => .int (i % j)) (.int i) (.int j) H (.int (i % j)) := rv_I (C := fun _ j => 0 < j) hc
theorem rv_mul {i j : Int} (hc : CMul i j) : RV (rI CMul fun i j => .int (i * j)) (.int i) (.int j) H (.int (i * j)) := rv_I hc
theorem rv_addS {i j : Str} (h : i.length + j.length ≤ sizeLine) : RV (fun x y H Q => ∃ i j, x = .str i ∧ y = .str j ∧ i.length + j.length ≤ sizeLine ∧ Q (.str (i ++ j)) H) (.str i) (.str j) H (.str (i ++ j)) :=
  fun H1 _ _ q => ⟨i, j, rfl, rfl, h, q H1 (Ex.refl H1)⟩
/-- len of a list | a text -/
theorem ev_lenL {K : PySem.W.Frag} {p : Addr} {xs : List V} (ha : Ev ta σ H (.ref p)) (h : SqL K H p xs) : Ev (tCB (rLenS K) (tCons ta tNil)) σ H (.int (xs.length : Int)) := ev_len ha h
theorem ev_lenT {K : PySem.W.Frag} {p : Addr} {xs : List V} (ha : Ev ta σ H (.ref p)) (h : SqT K H p xs) : Ev (tCB (rLenS K) (tCons ta tNil)) σ H (.int (xs.length : Int)) := fun H1 e Q q =>
  ha H1 e _ fun H2 e2 => ⟨p, xs, rfl, Or.inr (ex_t (e.trans e2) h), q H2 e2⟩
theorem ev_lenZ {z : Str} (ha : Ev ta σ H (.str z)) (h : z.length ≤ sizeLine) : Ev (tCB (fun xs H Q => ∃ z, xs = [.str z] ∧ z.length ≤ sizeLine ∧ Q (.int z.length) H) (tCons ta tNil)) σ H (.int (z.length : Int)) := fun H1 e Q q =>
  ha H1 e _ fun H2 e2 => ⟨z, rfl, h, q H2 e2⟩
/-- isinstance(x, T), T a built-in class -/
theorem ev_isi {n a : String} {b : Bool} (ha : Ev ta σ H x) (hb : Ev tb σ H (.ty n)) (ht : ∀ H1, Ex H H1 → TyX K H1 x (.type a)) (h : kitB a n = some b) : Ev (tCB (rIsi K) (tCons ta (tCons tb tNil))) σ H (.bl b) := fun H1 e Q q =>
  ha H1 e _ fun H2 e2 => hb H2 (e.trans e2) _ fun H3 e3 => ⟨x, .ty n, .type a, .type n, b, rfl, .ty n, ht H3 ((e.trans e2).trans e3), kit_ty h, q H3 (e2.trans e3)⟩
theorem ty_int {i : Int} : TyX K H (.int i) (.type "int") := .base (.int i)
theorem ty_lst {a : Addr} {xs : List V} (e : H a = some (.lst xs)) : TyX K H (.ref a) (.type "list") := .base (.lst e)
theorem ty_tup {a : Addr} {xs : List V} (e : H a = some (.tup xs)) : TyX K H (.ref a) (.type "tuple") := .base (.tup e)
theorem ty_str {z : Str} : TyX K H (.str z) (.type "str") := .base (.str z)
/-- list(x) of a list -/
theorem el_listof {p : Addr} {xs : List V} (ha : Ev ta σ H (.ref p)) (h : SqL K H p xs) : EvL (tCB (rListS K) (tCons ta tNil)) σ H xs := el_list ha h
/-- sum of a list of ints -/
theorem ev_sum {p : Addr} {ns : List Int} (ha : Ev ta σ H (.ref p)) (h : SqL K H p (ns.map V.int)) : Ev (tCB (rSum K) (tCons ta tNil)) σ H (.int ns.sum) := fun H1 e Q q =>
  ha H1 e _ fun H2 e2 => ⟨p, ns, rfl, ex_l (e.trans e2) h, q H2 e2⟩
theorem ev_sumN {ns : List Int} (ha : EvL ta σ H (ns.map V.int)) : Ev (tCB (rSum K) (tCons ta tNil)) σ H (.int ns.sum) := fun H1 e Q q =>
  ha H1 e _ fun p H2 _ e2 h2 => ⟨p, ns, rfl, sq_of h2, q H2 e2⟩
/-- a < b < c over ints -/
theorem ev_chain {p q : Int → Int → Bool} {i j k : Int} {tc : TE} (ha : Ev ta σ H (.int i)) (hb : Ev tb σ H (.int j)) (hc : Ev tc σ H (.int k)) :
    Ev (tChain (rI0 fun i j => .bl (p i j)) (rI0 fun i j => .bl (q i j)) ta tb tc) σ H (.bl (p i j && q j k)) := fun H1 e Q h =>
  ha H1 e _ fun H2 e2 => hb H2 (e.trans e2) _ fun H3 e3 => ⟨i, j, rfl, rfl, p i j, rfl, by
    cases hp : p i j with
    | true =>
      show tc σ H3 _
      exact hc H3 ((e.trans e2).trans e3) _ fun H4 e4 => ⟨j, k, rfl, rfl, (by
        have h4 := h H4 ((e2.trans e3).trans e4)
        rw [hp] at h4
        exact h4)⟩
    | false =>
      show Q (.bl false) H3
      have := h H3 (e2.trans e3)
      rw [hp] at this
      exact this⟩
theorem spv {sp : Sp} {vs : List V} (h : ∀ H1, Ex H H1 → ∀ (Q : VK) (E : XK), RetV z H1 Q → sp vs H1 Q E) : SpV sp vs H z := fun H1 e Q q E => h H1 e Q E q
theorem spl {sp : Sp} {vs xs : List V} (h : ∀ H1, Ex H H1 → ∀ (Q : VK) (E : XK), RetL xs H1 Q → sp vs H1 Q E) : SpL sp vs H xs := fun H1 e Q q E => h H1 e Q E q
/-- return f(x, y), y a new list -/
theorem s_retArg2L {D : Ends} {sp : Sp} {E : XK} {p : Addr} {ys : List V} (ha : Ev ta σ H (.ref p)) (hb : EvL tb σ H ys) (hs : ∀ r H1, Ex H H1 → H1 r = some (.lst ys) → SpV sp [.ref p, .ref r] H1 z) (k : ∀ H1, Ex H H1 → D.rt z H1) :
    tRet (tCall sp [] E (tCons ta (tCons tb tNil))) D σ H :=
  ha H (Ex.refl H) _ fun H1 e1 => hb H1 e1 _ fun r H2 _ e2 h2 => hs r H2 (e1.trans e2) h2 H2 (Ex.refl H2) _ (fun H3 e3 => k H3 ((e1.trans e2).trans e3)) E
/-- a call whose one argument is a new list -/
theorem el_cal1N {sp : Sp} {E : XK} {xs ys : List V} (ha : EvL ta σ H xs) (hs : ∀ r H1, Ex H H1 → H1 r = some (.lst xs) → SpL sp [.ref r] H1 ys) : EvL (tCall sp [] E (tCons ta tNil)) σ H ys := fun H1 e Q q =>
  ha H1 e _ fun r H2 _ e2 h2 => hs r H2 (e.trans e2) h2 H2 (Ex.refl H2) Q (fun p H3 hp e3 h3 => q p H3 (fresh_back e2 hp) (e2.trans e3) h3) E
theorem ev_cal1N {sp : Sp} {E : XK} {xs : List V} (ha : EvL ta σ H xs) (hs : ∀ r H1, Ex H H1 → H1 r = some (.lst xs) → SpV sp [.ref r] H1 z) : Ev (tCall sp [] E (tCons ta tNil)) σ H z := fun H1 e Q q =>
  ha H1 e _ fun r H2 _ e2 h2 => hs r H2 (e.trans e2) h2 H2 (Ex.refl H2) Q (fun H3 e3 => q H3 (e2.trans e3)) E
theorem ev_neg {i : Int} (ha : Ev ta σ H (.int i)) : Ev (tUn (rU fun i => .int (-i)) ta) σ H (.int (-i)) := ev_un ha ru_neg
/-- the script's cell at a place, 0 behind its end -/
def cel (ns : List Int) (j : Nat) : Int := ns.getD j 0
theorem cel_in {ns : List Int} {j : Nat} (h : j < ns.length) : atI (ns.map V.int) ((j : Nat) : Int) = some (V.int (cel ns j)) := by
  refine atI_nat ?_
  unfold cel
  rw [List.getElem?_map, List.getElem?_eq_getElem h, List.getD_eq_getElem?_getD, List.getElem?_eq_getElem h]
  rfl
theorem cel_out {ns : List Int} {j : Nat} (h : ¬ j < ns.length) : cel ns j = 0 := by
  unfold cel
  rw [List.getD_eq_getElem?_getD, List.getElem?_eq_none (by omega)]
  rfl
/-- the item of a list of ints -/
theorem int_at {ns : List Int} {n : Nat} {x : V} (hx : (ns.map V.int)[n]? = some x) : ∃ z : Int, x = V.int z ∧ ns[n]? = some z := by
  rw [List.getElem?_map] at hx
  cases hz : ns[n]? with
  | none => rw [hz] at hx; cases hx
  | some z => rw [hz] at hx; exact ⟨z, (Option.some.inj hx).symm, rfl⟩
/-! comprehensions without a test: the whole list that they make -/
def Cm (H : Hp) (ys : List V) (Dl : Addr) (i : Nat) (H' : Hp) : Prop := H Dl = none ∧ Ex H H' ∧ H' Dl = some (.lst (ys.take i))
theorem take_snoc {ys : List V} {i : Nat} {y : V} (h : ys[i]? = some y) : ys.take (i + 1) = ys.take i ++ [y] := by
  rw [List.take_add_one, h]
  rfl
theorem cm_turn {H H' H2 : Hp} {ys : List V} {Dl : Addr} {i : Nat} {σ2 : L2.St} {y : V} (p : Cm H ys Dl i H') (e2 : Ex H' H2) (hi : ys[i]? = some y) (hz : ys.length ≤ 50000) (he : Ev te σ2 H y) :
    te σ2 H2 fun y H4 => ∃ acc, H4 Dl = some (.lst acc) ∧ acc.length < sizeLine ∧ Cm H ys Dl (i + 1) (upd H4 Dl (.lst (acc ++ [y]))) := by
  obtain ⟨p1, p2, p3⟩ := p
  refine he H2 (p2.trans e2) _ fun H4 e4 => ⟨ys.take i, e4 Dl _ (e2 Dl _ p3), sz_lt ?_, p1, Ex.mut ((p2.trans e2).trans e4) p1, ?_⟩
  · rw [List.length_take]
    omega
  · rw [take_snoc hi]
    exact upd_same
theorem cm_end {H H' : Hp} {ys : List V} {Dl : Addr} {n : Nat} (p : Cm H ys Dl n H') (hn : ys.length = n) : H' Dl = some (.lst ys) := by
  have := p.2.2
  rwa [List.take_of_length_le (by omega)] at this
theorem get_of {ys : List V} {i n : Nat} (hn : ys.length = n) (hi : i < n) : ∃ y, ys[i]? = some y := ⟨ys[i], List.getElem?_eq_getElem (by omega)⟩
/-- over a list -/
theorem el_mapL {a : Addr} {xs : List V} {tl : TE} {j : Nat} {vs : List Nat} (ys : List V) (h : Ev tl σ H (.ref a)) (hx : SqL K H a xs) (hn : ys.length = xs.length) (hz : xs.length ≤ 40000) (hw : ∀ x, wipe ((wipe σ vs).set j (some x)) vs = wipe σ vs)
    (he : ∀ (i : Nat) (x y : V) H1, Ex H H1 → xs[i]? = some x → ys[i]? = some y → Ev te ((wipe σ vs).set j (some x)) H1 y) : EvL (tLc (iList K tl) (gName j) tYes te vs) σ H ys := fun H0 e Q q => h H0 e _ fun H1 e1 => ⟨a, rfl, ⟨xs, ex_l (e.trans e1) hx⟩, fun Dl hD =>
  lc_list (xs := xs) (Cm H1 ys Dl) ⟨hD, Ex.new hD, upd_same⟩ (fun i H' _ p => ex_l ((e.trans e1).trans p.2.1) hx) (fun i x H' hi p => by
    obtain ⟨y, hy⟩ := get_of hn (List.getElem?_eq_some_iff.mp hi).1
    refine ⟨hw x, ?_⟩
    show te _ H' _
    exact cm_turn p (Ex.refl _) hy (by omega) (he i x y H1 (e.trans e1) hi hy)) (fun H' p => q Dl H' (fresh_back e1 p.1) (e1.trans p.2.1) (cm_end p hn))⟩
/-- over a range from 0 -/
theorem el_mapR {ta : TA} {j : Nat} {vs : List Nat} {n : Int} (ys : List V) (h : EvA ta σ H [.int n]) (hn : 0 ≤ n ∧ n ≤ 40000) (hl : ys.length = n.toNat) (hw : ∀ x, wipe ((wipe σ vs).set j (some x)) vs = wipe σ vs)
    (he : ∀ (i : Nat) (y : V) H1, Ex H H1 → (i : Int) < n → ys[i]? = some y → Ev te ((wipe σ vs).set j (some (.int (i : Int)))) H1 y) : EvL (tLc (iRng1 ta) (gName j) tYes te vs) σ H ys := fun H0 e Q q => h H0 e _ fun H1 e1 => ⟨n, rfl, by omega, by omega, fun Dl hD =>
  lc_range (lo := 0) (n := n.toNat) (Cm H1 ys Dl) ⟨hD, Ex.new hD, upd_same⟩ (fun i H' hi p => by
    obtain ⟨y, hy⟩ := get_of hl hi
    have e0 : (0 : Int) + (i : Int) = (i : Int) := Int.zero_add _
    show wipe ((wipe σ vs).set j (some (.int ((0 : Int) + (i : Int))))) vs = wipe σ vs ∧ te ((wipe σ vs).set j (some (.int ((0 : Int) + (i : Int))))) H' _
    rw [e0]
    exact ⟨hw _, cm_turn p (Ex.refl _) hy (by omega) (he i y H1 (e.trans e1) (by omega) hy)⟩) (fun H' p => q Dl H' (fresh_back e1 p.1) (e1.trans p.2.1) (cm_end p hl))⟩
/-- over zip of two lists, the target two names -/
theorem el_mapZ {ta : TA} {a b : Addr} {xs zs : List V} {i j : Nat} {vs : List Nat} (ys : List V) (h : EvA ta σ H [.ref a, .ref b]) (hx : SqL K H a xs) (hx2 : SqL K H b zs) (hl : xs.length = zs.length) (hn : ys.length = xs.length) (hz : xs.length ≤ 40000)
    (hw : ∀ x y, wipe (((wipe σ vs).set i (some x)).set j (some y)) vs = wipe σ vs)
    (he : ∀ (k : Nat) (x z y : V) H1, Ex H H1 → xs[k]? = some x → zs[k]? = some z → ys[k]? = some y → Ev te (((wipe σ vs).set i (some x)).set j (some z)) H1 y) : EvL (tLc (iZip K ta) (gTup K 2 (gCons (gName i) (gCons (gName j) gNil))) tYes te vs) σ H ys := fun H0 e Q q => h H0 e _ fun H1 e1 =>
  ⟨a, b, xs, zs, rfl, ex_l (e.trans e1) hx, ex_l (e.trans e1) hx2, fun Dl hD =>
  lc_it (walk_zip (n := xs.length) (by omega)) (Cm H1 ys Dl) ⟨hD, Ex.new hD, upd_same⟩ (fun k H' _ p => ⟨ex_l ((e.trans e1).trans p.2.1) hx, ex_l ((e.trans e1).trans p.2.1) hx2⟩) (fun k v H' H2 hk p yy => by
    obtain ⟨T, x, z, rfl, hT, rfl, g1, g2⟩ := yy
    obtain ⟨y, hy⟩ := get_of hn hk
    refine ⟨T, [x, z], rfl, st_of upd_same, rfl, x, [z], rfl, z, [], rfl, rfl, hw x z, ?_⟩
    show te _ _ _
    exact cm_turn p (Ex.new hT) hy (by omega) (he k x z y H1 (e.trans e1) g1 g2 hy)) (fun H' p => q Dl H' (fresh_back e1 p.1) (e1.trans p.2.1) (cm_end p hn))⟩
/-- a loop over zip of two lists, the target two names -/
theorem q_forZ {tz : TS} {D : Ends} {ta : TA} {tu : TS} {a b : Addr} {xs ys : List V} {i j : Nat} (h : EvA ta σ H [.ref a, .ref b]) (hx : SqL K H a xs) (hy : SqL K H b ys) (hl : xs.length = ys.length) (Pv : Nat → L2.St → Hp → Prop) (h0 : ∀ H1, Ex H H1 → Pv 0 σ H1)
    (hq : ∀ i σ' H', Pv i σ' H' → Ex H H')
    (hs : ∀ (n : Nat) (x y : V) (σ' : L2.St) (H' H2 : Hp), xs[n]? = some x → ys[n]? = some y → Pv n σ' H' → Ex H' H2 → tu { D with nx := Pv (n + 1), ct := Pv (n + 1), bk := tz D } ((σ'.set i (some x)).set j (some y)) H2) (hd : ∀ σ' H', Pv xs.length σ' H' → tz D σ' H') :
    tSeq (tFor (iZip K ta) (gTup K 2 (gCons (gName i) (gCons (gName j) gNil))) tu) tz D σ H :=
  h H (Ex.refl H) _ fun H1 e => ⟨a, b, xs, ys, rfl, ex_l e hx, ex_l e hy, for_it (walk_zip (n := xs.length) (by omega)) Pv (h0 H1 e) (fun k σ' H' _ p => ⟨ex_l (hq _ _ _ p) hx, ex_l (hq _ _ _ p) hy⟩) (fun n v σ' H' H2 hn p y => by
    obtain ⟨T, x, z, rfl, hT, rfl, e1, e2⟩ := y
    exact ⟨T, [x, z], rfl, st_of upd_same, rfl, x, [z], rfl, z, [], rfl, rfl, hs n x z σ' H' _ e1 e2 p (Ex.new hT)⟩) hd⟩
end
end SP

set_option maxHeartbeats 4000000
/-! binary heaps as lists: a swap, going down to a leaf, going up again -/
namespace HM
section
variable {α : Type} (le : α → α → Prop)
def Child (p c : Nat) : Prop := c = 2 * p + 1 ∨ c = 2 * p + 2
theorem Child.par {p c : Nat} (h : Child p c) : p = (c - 1) / 2 ∧ p < c := by
  unfold Child at h
  omega
theorem Child.of {c : Nat} (h : 0 < c) : Child ((c - 1) / 2) c := by
  unfold Child
  omega
theorem Child.uni {p q c : Nat} (h : Child p c) (h' : Child q c) : p = q := by
  unfold Child at h h'
  omega
inductive Sub (top : Nat) : Nat → Prop where
  | base : Sub top top
  | step {q c : Nat} : Sub top q → Child q c → Sub top c
theorem Sub.ge {top q : Nat} (h : Sub top q) : top ≤ q := by
  induction h with
  | base => exact Nat.le_refl _
  | step _ hc ih =>
    have := hc.par
    omega
theorem Sub.up {top c q : Nat} (h : Sub top c) (hc : Child q c) (hn : top < c) : Sub top q := by
  cases h with
  | base => omega
  | step h' hc' =>
    rw [hc.uni hc']
    exact h'
def Ok (g : Nat → α) (n top : Nat) : Prop := ∀ p c, c < n → Child p c → top ≤ p → le (g p) (g c)
def Dn (g : Nat → α) (n top pos : Nat) : Prop :=
  (∀ p c, c < n → Child p c → top ≤ p → p ≠ pos → c ≠ pos → le (g p) (g c)) ∧ ∀ q c, Child q pos → top ≤ q → c < n → Child pos c → le (g q) (g c)
def Up (g : Nat → α) (n top pos : Nat) : Prop :=
  (∀ p c, c < n → Child p c → top ≤ p → c ≠ pos → le (g p) (g c)) ∧ ∀ q c, Child q pos → top ≤ q → c < n → Child pos c → le (g q) (g c)
/-- i and j swapped -/
def sw (g : Nat → α) (i j : Nat) : Nat → α := fun k => if k = i then g j else if k = j then g i else g k
theorem sw_i (g : Nat → α) (i j : Nat) : sw g i j i = g j := by simp [sw]
theorem sw_j (g : Nat → α) (i j : Nat) : sw g i j j = g i := by
  unfold sw
  by_cases h : j = i
  · rw [if_pos h, h]
  · rw [if_neg h, if_pos rfl]
theorem sw_o (g : Nat → α) {i j k : Nat} (h1 : k ≠ i) (h2 : k ≠ j) : sw g i j k = g k := by
  unfold sw
  rw [if_neg h1, if_neg h2]
variable {le}
theorem down_step {g : Nat → α} {n top pos ch : Nat} (h : Dn le g n top pos) (ht : top ≤ pos) (hc : Child pos ch) (hn : ch < n) (hmin : ∀ c, c < n → Child pos c → le (g ch) (g c)) : Dn le (sw g ch pos) n top ch := by
  obtain ⟨h1, h2⟩ := h
  have hlt := hc.par
  refine ⟨fun p c hcn hpc htp hp hcc => ?_, fun q c hq htq hcn hcc => ?_⟩
  · by_cases e : p = pos
    · subst e
      rw [sw_j, sw_o g hcc (by have := hpc.par; omega)]
      exact hmin c hcn hpc
    · rw [sw_o g hp e]
      by_cases e2 : c = pos
      · subst e2
        rw [sw_j]
        exact h2 p ch hpc htp hn hc
      · rw [sw_o g hcc e2]
        exact h1 p c hcn hpc htp e e2
  · have e : q = pos := hq.uni hc
    subst e
    rw [sw_j, sw_o g (by have := hcc.par; omega) (by have := hcc.par; omega)]
    exact h1 ch c hcn hcc (by omega) (by omega) (by have := hcc.par; omega)
theorem down_end {g : Nat → α} {n top pos : Nat} (h : Dn le g n top pos) (hn : n ≤ 2 * pos + 1) : Up le g n top pos := by
  obtain ⟨h1, h2⟩ := h
  refine ⟨fun p c hcn hpc htp hc => ?_, h2⟩
  refine h1 p c hcn hpc htp (fun e => ?_) hc
  subst e
  unfold Child at hpc
  omega
theorem up_step (tr : ∀ x y z, le x y → le y z → le x z) {g : Nat → α} {n top pos q : Nat} (h : Up le g n top pos) (hpn : pos < n) (hq : Child q pos) (ht : top ≤ q) (hx : le (g pos) (g q)) : Up le (sw g q pos) n top q := by
  obtain ⟨h1, h2⟩ := h
  have hlt := hq.par
  refine ⟨fun p c hcn hpc htp hc => ?_, fun r c hr htr hcn hcc => ?_⟩
  · by_cases e : p = pos
    · subst e
      rw [sw_j, sw_o g (by have := hpc.par; omega) (by have := hpc.par; omega)]
      exact h2 q c hq ht hcn hpc
    · by_cases e2 : c = pos
      · subst e2
        have e3 : p = q := hpc.uni hq
        subst e3
        rw [sw_i, sw_j]
        exact hx
      · rw [sw_o g hc e2]
        by_cases e3 : p = q
        · subst e3
          rw [sw_i]
          exact tr _ _ _ hx (h1 p c hcn hpc htp e2)
        · rw [sw_o g e3 e]
          exact h1 p c hcn hpc htp e2
  · have hrq := hr.par
    rw [sw_o g (by omega) (by omega)]
    have a1 := h1 r q (by omega) hr htr (by omega)
    by_cases e : c = pos
    · subst e
      rw [sw_j]
      exact a1
    · rw [sw_o g (by have := hcc.par; omega) e]
      exact tr _ _ _ a1 (h1 q c hcn hcc ht e)
theorem up_end {g : Nat → α} {n top pos : Nat} (h : Up le g n top pos) (hx : ∀ q, Child q pos → top ≤ q → le (g q) (g pos)) : Ok le g n top := by
  intro p c hcn hpc htp
  by_cases e : c = pos
  · subst e
    exact hx p hpc htp
  · exact h.1 p c hcn hpc htp e
theorem next_dn {g : Nat → α} {n t : Nat} (h : Ok le g n (t + 1)) : Dn le g n t t := by
  refine ⟨fun p c hcn hpc htp hp hc => h p c hcn hpc (by omega), fun q c hq htq hcn hcc => ?_⟩
  have := hq.par
  omega
theorem root_least (rf : ∀ x, le x x) (tr : ∀ x y z, le x y → le y z → le x z) {g : Nat → α} {n : Nat} (h : Ok le g n 0) : ∀ i, i < n → le (g 0) (g i) := by
  intro i
  induction i using Nat.strongRecOn with
  | _ i ih =>
    intro hi
    by_cases e : i = 0
    · subst e
      exact rf _
    · have hc := Child.of (c := i) (by omega)
      have hl := hc.par
      exact tr _ _ _ (ih _ hl.2 (by omega)) (h _ _ hi hc (Nat.zero_le _))
theorem start_dn {g : Nat → α} {n : Nat} (hn : 2 ≤ n) : Dn le g n (n / 2 - 1) (n / 2 - 1) := by
  refine ⟨fun p c hcn hpc htp hp hc => ?_, fun q c hq htq hcn hcc => ?_⟩
  · unfold Child at hpc
    omega
  · have := hq.par
    omega
theorem ok_mono {g g' : Nat → α} {n top : Nat} (h : Ok le g n top) (e : ∀ i, i < n → g' i = g i) : Ok le g' n top := by
  intro p c hcn hpc htp
  have := hpc.par
  rw [e p (by omega), e c hcn]
  exact h p c hcn hpc htp
theorem push_up {g g' : Nat → α} {n : Nat} (h : Ok le g n 0) (e : ∀ i, i < n → g' i = g i) : Up le g' (n + 1) 0 n := by
  refine ⟨fun p c hcn hpc htp hc => ?_, fun q c hq htq hcn hcc => ?_⟩
  · have := hpc.par
    rw [e p (by omega), e c (by omega)]
    exact h p c (by omega) hpc htp
  · have := hcc.par
    omega
theorem pop_dn {g g' : Nat → α} {n : Nat} (h : Ok le g (n + 1) 0) (e : ∀ i, 0 < i → i < n → g' i = g i) : Dn le g' n 0 0 := by
  refine ⟨fun p c hcn hpc htp hp hc => ?_, fun q c hq htq hcn hcc => ?_⟩
  · have := hpc.par
    rw [e p (by omega) (by omega), e c (by omega) hcn]
    exact h p c (by omega) hpc htp
  · have := hq.par
    omega
end
/-! lists -/
section
variable {α : Type} {d : α}
def vw (d : α) (xs : List α) : Nat → α := fun i => xs.getD i d
/-- two places of a list swapped, the second's item first -/
def swL (xs : List α) (i j : Nat) (x y : α) : List α := (xs.set i y).set j x
theorem vw_at {xs : List α} {i : Nat} {x : α} (h : xs[i]? = some x) : vw d xs i = x := by
  unfold vw
  rw [List.getD_eq_getElem?_getD, h]
  rfl
theorem vw_set {xs : List α} {i k : Nat} {x : α} (hi : i < xs.length) : vw d (xs.set i x) k = if k = i then x else vw d xs k := by
  unfold vw
  rw [List.getD_eq_getElem?_getD, List.getD_eq_getElem?_getD, List.getElem?_set]
  by_cases e : k = i
  · subst e
    simp [hi]
  · rw [if_neg (Ne.symm e), if_neg e]
theorem vw_sw {xs : List α} {i j : Nat} {x y : α} (hx : xs[i]? = some x) (hy : xs[j]? = some y) : vw d (swL xs i j x y) = sw (vw d xs) i j := by
  funext k
  have hi := (List.getElem?_eq_some_iff.mp hx).1
  have hj := (List.getElem?_eq_some_iff.mp hy).1
  unfold swL
  rw [vw_set (by rw [List.length_set]; exact hj), vw_set hi]
  by_cases e1 : k = i
  · subst e1
    by_cases e2 : k = j
    · subst e2
      rw [if_pos rfl, sw_i, vw_at hx]
    · rw [if_neg e2, if_pos rfl, sw_i, vw_at hy]
  · by_cases e2 : k = j
    · subst e2
      rw [if_pos rfl, sw_j, vw_at hx]
    · rw [if_neg e2, if_neg e1, sw_o _ e1 e2]
theorem swL_len {xs : List α} {i j : Nat} {x y : α} : (swL xs i j x y).length = xs.length := by simp [swL]
theorem swL_perm {xs : List α} {i j : Nat} {x y : α} (hx : xs[i]? = some x) (hy : xs[j]? = some y) : (swL xs i j x y).Perm xs := by
  obtain ⟨hi, ex⟩ := List.getElem?_eq_some_iff.mp hx
  obtain ⟨hj, ey⟩ := List.getElem?_eq_some_iff.mp hy
  have h := List.set_set_perm hi hj
  unfold swL
  subst ex ey
  exact h
/-- the last item in the first one's place -/
theorem pop_perm {x l : α} {m : List α} : (x :: (m ++ [l])).Perm (x :: ((x :: m).set 0 l)) := by
  show (x :: (m ++ [l])).Perm (x :: (l :: m))
  exact List.Perm.cons _ (List.perm_append_comm (l₁ := m) (l₂ := [l]))
end
end HM

set_option maxHeartbeats 4000000
namespace HQ
open PySem L2 PyProof.Rows HM

abbrev Ky := Addr → Int × Int
def kl (kk : Ky) (a : Addr) : List Int := [(kk a).1, (kk a).2]
/-- a before b, or alike -/
def kle (kk : Ky) (a b : Addr) : Prop := (kk a).1 < (kk b).1 ∨ ((kk a).1 = (kk b).1 ∧ (kk a).2 ≤ (kk b).2)
theorem kl_lt (kk : Ky) (a b : Addr) : HT.lexLt (kl kk a) (kl kk b) = true ↔ ¬ kle kk b a := by
  unfold kl kle
  rw [HT.lexLt_cons, HT.lexLt_cons]
  by_cases h1 : (kk a).1 = (kk b).1
  · rw [if_pos h1]
    by_cases h2 : (kk a).2 = (kk b).2
    · rw [if_pos h2, HT.lexLt_nil_nil]
      constructor
      · intro h; cases h
      · intro h; exact absurd (Or.inr ⟨h1.symm, by omega⟩) h
    · rw [if_neg h2, decide_eq_true_eq]
      omega
  · rw [if_neg h1, decide_eq_true_eq]
    omega
theorem kle_rf (kk : Ky) (a : Addr) : kle kk a a := Or.inr ⟨rfl, Int.le_refl _⟩
theorem kle_tr (kk : Ky) (a b c : Addr) (h : kle kk a b) (h' : kle kk b c) : kle kk a c := by
  unfold kle at *
  omega
theorem kle_of_lt {kk : Ky} {a b : Addr} (h : HT.lexLt (kl kk a) (kl kk b) = true) : kle kk a b := by
  have := (kl_lt kk a b).mp h
  unfold kle at *
  omega
theorem kle_of_not {kk : Ky} {a b : Addr} (h : HT.lexLt (kl kk a) (kl kk b) = false) : kle kk b a := by
  rcases Classical.em (kle kk b a) with q | q
  · exact q
  · rw [(kl_lt kk a b).mpr q] at h
    cases h
/-! what a machine's turn is made of -/
def hItems (b : Addr) : Sem (Array Value) := seqItems? (.ref b) >>= fun | some ys => pure ys | _ => unsupported "internal:_heapq"
def hAt (ys : Array Value) (k : Nat) : Sem Value := match ys[k]? with | some u => pure u | none => unsupported "internal:_heapq.index"
def hSwap (b : Addr) (i j : Nat) : Sem Unit := hItems b >>= fun ys => hAt ys i >>= fun u => hAt ys j >>= fun v => updateSeq b fun zs => (zs.setIfInBounds i v).setIfInBounds j u
def hLess (b : Addr) (n : Nat) (u v : Value) : Sem Bool := holding [u, v] (richCompare .Lt u v >>= truthOfDropped) >>= fun r => hItems b >>= fun ys =>
  if (ys.size != n) = true then rule "_heapq.size-changed" >>= fun _ => raiseError "RuntimeError" "list changed size during iteration" >>= fun _ : Unit => pure r else pure r
def hCode (b : Addr) (dn : Bool) (p t : Nat) (r : Value) (k : Int) : Code := .builtin "_heapq.heapify.sift" ⟨[.ref b, .bool false, .bool dn, rawInt (p : Int), rawInt (t : Int), r, rawInt k], []⟩
theorem hCode_quiet (b : Addr) (dn : Bool) (p t : Nat) (r : Value) (k : Int) : (hCode b dn p t r k).quiet = true := plainId_quiet (id := "_heapq.heapify.sift") (by decide +kernel) _
/-- the pairs stand where the list says -/
def Keys (K : PySem.W.Frag) (H : Hp) (as : List Addr) (kk : Ky) : Prop := ∀ a ∈ as, SqT K H a ((kl kk a).map V.int)
theorem refs_of : ∀ {as : List Addr} {us : List Value}, Vals (as.map V.ref) us → us = as.map Value.ref
  | [], _, .nil => rfl
  | a :: as, _, .cons r t => by
    rw [refs_of t]
    cases r
    rfl
theorem vals_refs : ∀ as : List Addr, Vals (as.map V.ref) (as.map Value.ref)
  | [] => .nil
  | a :: as => .cons rfl (vals_refs as)
section
variable {X : Cx} {pins : List (Addr × Obj)} {σ : L2.St} {H : Hp} {s : Shared} {l : Addr} {as : List Addr} {kk : Ky} {A : Around}
theorem list_at (I : Inv X pins σ H s) (h : H l = some (.lst (as.map V.ref))) : ∃ n, s.heap.get? l = some { cls := .type "list", data := .seq (as.map Value.ref).toArray n } ∧ as.length ≤ sizeLine := by
  obtain ⟨its, n, r, e, z⟩ := I.lst h
  rw [refs_of r] at e
  exact ⟨n, e, by rwa [List.length_map] at z⟩
theorem keys_upd {as' : List Addr} (h : H l = some (.lst (as.map V.ref))) (k : Keys X.K H as' kk) (ys : List V) : Keys X.K (upd H l (.lst ys)) as' kk := by
  intro a ha
  rcases k a ha with q | q
  · refine Or.inl ?_
    rcases q with q | ⟨o, q⟩
    · exact Or.inl (by rw [upd_ne (ne_of q h fun z => nomatch z)]; exact q)
    · exact Or.inr ⟨o, by rw [upd_ne (ne_of q h fun z => nomatch z)]; exact q⟩
  · exact Or.inr q
theorem upd_self {o : HO} (h : H l = some o) : upd H l o = H := by
  funext b
  unfold upd
  by_cases e : b = l
  · rw [if_pos e, e, h]
  · rw [if_neg e]
/-- the smaller of two pairs -/
theorem less_run {a b : Addr} {E : Value → Shared → Prop} {Q : Bool → Shared → Prop} (I : Inv X pins σ H s) (ha : SqT X.K H a ((kl kk a).map V.int)) (hb : SqT X.K H b ((kl kk b).map V.int)) (hu : A.units < cLine)
    (h : Q (HT.lexLt (kl kk a) (kl kk b)) s) : wpAny (model X.prog X.w) A (holding [.ref a, .ref b] (richCompare .Lt (.ref a) (.ref b) >>= truthOfDropped)) Q E s := by
  obtain ⟨its, r1, p1, _⟩ := I.tuple ha
  obtain ⟨its2, r2, p2, _⟩ := I.tuple hb
  have i1 : IntsAre its.toArray.toList (kl kk a) := intsAre_of r1
  have i2 : IntsAre its2.toArray.toList (kl kk b) := intsAre_of r2
  refine wpAny_holding (wpAny_bind ?_)
  have g := HT.lt_tupInts (prog := X.prog) (w := X.w) (A := A) (E := E) (Q := fun v s' => wpAny (model X.prog X.w) A (truthOfDropped v) Q E s') p1 p2 i1 i2 hu (wpAny_truthy_bool h)
  exact g
theorem items_run {E : Value → Shared → Prop} {Q : Array Value → Shared → Prop} {ys : Array Value} {n : Nat} (e : s.heap.get? l = some { cls := .type "list", data := .seq ys n }) (q : Q ys s) : wpAny (model X.prog X.w) A (hItems l) Q E s := by
  unfold hItems seqItems?
  exact wpAny_bind (wpAny_bind (wpAny_load e (wpAny_pure (wpAny_pure q))))
theorem at_run {E : Value → Shared → Prop} {Q : Value → Shared → Prop} {ys : Array Value} {k : Nat} {u : Value} (e : ys[k]? = some u) (q : Q u s) : wpAny (model X.prog X.w) A (hAt ys k) Q E s := by
  unfold hAt
  rw [e]
  exact wpAny_pure q
theorem hless_run {a b : Addr} {E : Value → Shared → Prop} {Q : Bool → Shared → Prop} {ys : Array Value} {n k : Nat} (I : Inv X pins σ H s) (e : s.heap.get? l = some { cls := .type "list", data := .seq ys n }) (hn : ys.size = k) (ha : SqT X.K H a ((kl kk a).map V.int)) (hb : SqT X.K H b ((kl kk b).map V.int)) (hu : A.units < cLine)
    (h : Q (HT.lexLt (kl kk a) (kl kk b)) s) : wpAny (model X.prog X.w) A (hLess l k (.ref a) (.ref b)) Q E s := by
  unfold hLess
  refine wpAny_bind (less_run I ha hb hu (wpAny_bind (items_run e ?_)))
  rw [if_neg (by rw [hn]; simp)]
  exact wpAny_pure h
theorem swap_run {i j : Nat} {x y : Addr} {n : Nat} {E : Value → Shared → Prop} {Q : Unit → Shared → Prop} (e : s.heap.get? l = some { cls := .type "list", data := .seq (as.map Value.ref).toArray n }) (hz : as.length ≤ sizeLine)
    (hx : as[i]? = some x) (hy : as[j]? = some y) (h : Q () { s with heap := s.heap.update l (Obj.mapSeq fun xs => (xs.setIfInBounds i (.ref y)).setIfInBounds j (.ref x)) }) : wpAny (model X.prog X.w) A (hSwap l i j) Q E s := by
  unfold hSwap
  refine wpAny_bind (items_run e (wpAny_bind (at_run (u := .ref x) (by simp [hx]) (wpAny_bind (at_run (u := .ref y) (by simp [hy]) ?_)))))
  exact wpAny_updateSeq e rfl h (by simpa using hz) (by simp; omega)
theorem swap_inv {i j : Nat} {x y : Addr} {n : Nat} (I : Inv X pins σ H s) (hH : H l = some (.lst (as.map V.ref))) (e : s.heap.get? l = some { cls := .type "list", data := .seq (as.map Value.ref).toArray n }) (hz : as.length ≤ sizeLine) :
    Inv X pins σ (upd H l (.lst ((swL as i j x y).map V.ref))) { s with heap := s.heap.update l (Obj.mapSeq fun xs => (xs.setIfInBounds i (.ref y)).setIfInBounds j (.ref x)) } := by
  refine I.lset (its' := (swL as i j x y).map Value.ref) (t' := s.toks) hH e ?_ (vals_refs _) (by rw [List.length_map, swL_len]; exact hz)
  unfold swL
  simp
end
section
variable {X : Cx} {pins : List (Addr × Obj)} {σ : L2.St} {l : Addr} {kk : Ky} {A : Around}
/-- what is wanted behind a turn: the machine's next code at a state of ours, or the end -/
def Nxt (X : Cx) (pins : List (Addr × Obj)) (σ : L2.St) (l : Addr) (H : Hp) (P : Bool → Nat → Nat → Int → List Addr → Prop) (res : Value) (F : List Addr → Prop) : PySem.Fin → Shared → Prop := fun fin s' =>
  (∃ dn p t k as', fin = .again (hCode l dn p t res k) ∧ Inv X pins σ (upd H l (.lst (as'.map V.ref))) s' ∧ P dn p t k as') ∨ (∃ as', fin = .done (.ret res) ∧ Inv X pins σ (upd H l (.lst (as'.map V.ref))) s' ∧ F as')
theorem turn_down {as : List Addr} {H : Hp} {s : Shared} {pos top : Nat} {after : Int} {res : Value} {E : Value → Shared → Prop} {P : Bool → Nat → Nat → Int → List Addr → Prop} {F : List Addr → Prop} (I : Inv X pins σ H s) (hH : H l = some (.lst (as.map V.ref))) (hk : Keys X.K H as kk) (hu : A.units < cLine) (hp : pos < as.length)
    (h1 : as.length ≤ 2 * pos + 1 → P false pos top after as)
    (h2 : ∀ ch x y, Child pos ch → ch < as.length → as[ch]? = some x → as[pos]? = some y → (∀ c z, as[c]? = some z → Child pos c → kle kk x z) → P true ch top after (swL as ch pos x y)) :
    wpAny (model X.prog X.w) A (Builtin.«_heapq.heapify.sift» ⟨[.ref l, .bool false, .bool true, rawInt (pos : Int), rawInt (top : Int), res, rawInt after], []⟩) (Nxt X pins σ l H P res F) E s := by
  obtain ⟨n, e, hz⟩ := list_at I hH
  unfold Builtin.«_heapq.heapify.sift»
  dsimp only [rawInt]
  rw [Int.toNat_natCast pos, Int.toNat_natCast top]
  refine wpAny_bind (items_run e ?_)
  rw [if_pos rfl, List.size_toArray, List.length_map]
  have hpos : as[pos]? = some as[pos] := List.getElem?_eq_getElem hp
  by_cases c1 : pos < as.length / 2
  · rw [if_pos c1]
    have hl1 : 2 * pos + 1 < as.length := by omega
    have g1 : as[2 * pos + 1]? = some as[2 * pos + 1] := List.getElem?_eq_getElem hl1
    have kx := hk _ (List.getElem_mem hl1)
    have go1 : (∀ c z, as[c]? = some z → Child pos c → kle kk as[2 * pos + 1] z) → wpAny (model X.prog X.w) A (hSwap l (2 * pos + 1) pos >>= fun _ => again (hCode l true (2 * pos + 1) top res after)) (Nxt X pins σ l H P res F) E s := fun hm =>
      wpAny_bind (swap_run e hz g1 hpos (wpAny_pure (Or.inl ⟨_, _, _, _, _, rfl, swap_inv I hH e hz, h2 _ _ _ (Or.inl rfl) hl1 g1 hpos hm⟩)))
    by_cases c2 : 2 * pos + 1 + 1 < as.length
    · rw [if_pos c2]
      have g2 : as[2 * pos + 1 + 1]? = some as[2 * pos + 1 + 1] := List.getElem?_eq_getElem c2
      have ky := hk _ (List.getElem_mem c2)
      refine wpAny_bind (at_run (u := .ref as[2 * pos + 1]) (by simp) (wpAny_bind (at_run (u := .ref as[2 * pos + 1 + 1]) (by simp [c2]) ?_)))
      rw [if_neg Bool.false_ne_true]
      refine wpAny_bind (hless_run I e (by simp) kx ky hu ?_)
      cases hl : HT.lexLt (kl kk as[2 * pos + 1]) (kl kk as[2 * pos + 1 + 1]) with
      | true =>
        rw [if_neg (by decide)]
        refine go1 fun c z hc hcc => ?_
        rcases hcc with rfl | rfl
        · rw [g1] at hc
          cases hc
          exact kle_rf _ _
        · rw [show 2 * pos + 2 = 2 * pos + 1 + 1 from rfl, g2] at hc
          cases hc
          exact kle_of_lt hl
      | false =>
        rw [if_pos (by decide)]
        refine wpAny_bind (swap_run e hz g2 hpos (wpAny_pure (Or.inl ⟨_, _, _, _, _, rfl, swap_inv I hH e hz, h2 _ _ _ (Or.inr rfl) c2 g2 hpos fun c z hc hcc => ?_⟩)))
        rcases hcc with rfl | rfl
        · rw [g1] at hc
          cases hc
          exact kle_of_not hl
        · rw [show 2 * pos + 2 = 2 * pos + 1 + 1 from rfl, g2] at hc
          cases hc
          exact kle_rf _ _
    · rw [if_neg c2]
      refine go1 fun c z hc hcc => ?_
      rcases hcc with rfl | rfl
      · rw [g1] at hc
        cases hc
        exact kle_rf _ _
      · have := (List.getElem?_eq_some_iff.mp hc).1
        omega
  · rw [if_neg c1]
    refine wpAny_pure (Or.inl ⟨_, _, _, _, as, rfl, ?_, h1 (by omega)⟩)
    rw [upd_self hH]
    exact I
theorem turn_up {as : List Addr} {H : Hp} {s : Shared} {pos top : Nat} {after : Int} {res : Value} {E : Value → Shared → Prop} {P : Bool → Nat → Nat → Int → List Addr → Prop} {F : List Addr → Prop} (I : Inv X pins σ H s) (hH : H l = some (.lst (as.map V.ref))) (hk : Keys X.K H as kk) (hu : A.units < cLine) (hp : pos < as.length) (ht : top ≤ pos)
    (h1 : ∀ q x y, Child q pos → top < pos → as[q]? = some x → as[pos]? = some y → kle kk y x → P false q top after (swL as q pos x y))
    (h2 : (∀ q x y, Child q pos → top < pos → as[q]? = some x → as[pos]? = some y → kle kk x y) → after < 0 → F as)
    (h3 : (∀ q x y, Child q pos → top < pos → as[q]? = some x → as[pos]? = some y → kle kk x y) → 0 ≤ after → P true after.toNat after.toNat (after - 1) as) :
    wpAny (model X.prog X.w) A (Builtin.«_heapq.heapify.sift» ⟨[.ref l, .bool false, .bool false, rawInt (pos : Int), rawInt (top : Int), res, rawInt after], []⟩) (Nxt X pins σ l H P res F) E s := by
  obtain ⟨n, e, hz⟩ := list_at I hH
  unfold Builtin.«_heapq.heapify.sift»
  dsimp only [rawInt]
  rw [Int.toNat_natCast pos, Int.toNat_natCast top]
  refine wpAny_bind (items_run e ?_)
  rw [if_neg Bool.false_ne_true]
  have I0 : Inv X pins σ (upd H l (.lst (as.map V.ref))) s := by
    rw [upd_self hH]
    exact I
  have hpos : as[pos]? = some as[pos] := List.getElem?_eq_getElem hp
  have fin : (∀ q x y, Child q pos → top < pos → as[q]? = some x → as[pos]? = some y → kle kk x y) → wpAny (model X.prog X.w) A (if after < 0 then ret res else again (hCode l true after.toNat after.toNat res (after - 1))) (Nxt X pins σ l H P res F) E s := fun hm => by
    by_cases c2 : after < 0
    · rw [if_pos c2]
      exact wpAny_pure (Or.inr ⟨as, rfl, I0, h2 hm c2⟩)
    · rw [if_neg c2]
      exact wpAny_pure (Or.inl ⟨_, _, _, _, as, rfl, I0, h3 hm (by omega)⟩)
  by_cases c1 : pos > top
  · rw [if_pos c1]
    have hq : (pos - 1) / 2 < as.length := by omega
    have g1 : as[(pos - 1) / 2]? = some as[(pos - 1) / 2] := List.getElem?_eq_getElem hq
    refine wpAny_bind (at_run (u := .ref as[pos]) (by simp [hp]) (wpAny_bind (at_run (u := .ref as[(pos - 1) / 2]) (by simp [hq]) ?_)))
    rw [if_neg Bool.false_ne_true]
    refine wpAny_bind (hless_run I e (by simp) (hk _ (List.getElem_mem hp)) (hk _ (List.getElem_mem hq)) hu ?_)
    cases hl : HT.lexLt (kl kk as[pos]) (kl kk as[(pos - 1) / 2]) with
    | true =>
      rw [if_pos rfl]
      exact wpAny_bind (swap_run e hz g1 hpos (wpAny_pure (Or.inl ⟨_, _, _, _, _, rfl, swap_inv I hH e hz, h1 _ _ _ (Child.of (by omega)) c1 g1 hpos (kle_of_lt hl)⟩)))
    | false =>
      rw [if_neg Bool.false_ne_true]
      refine fin fun q x y hc _ hx hy => ?_
      rw [hc.par.1, g1] at hx
      rw [hpos] at hy
      cases hx
      cases hy
      exact kle_of_not hl
  · rw [if_neg c1]
    exact fin fun q x y hc h => absurd h (by omega)

/-- where the machine stands -/
def PI (kk : Ky) (dn : Bool) (p t : Nat) (k : Int) (as : List Addr) : Prop := p < as.length ∧ Sub t p ∧ k = (t : Int) - 1 ∧
  match dn with | true => Dn (kle kk) (vw 0 as) as.length t p | false => Up (kle kk) (vw 0 as) as.length t p
def mu (n : Nat) (dn : Bool) (p : Nat) (k : Int) : Nat := (k + 1).toNat * (2 * n + 3) + (match dn with | true => 2 * n + 1 - p | false => p)
/-- a heap -/
def Hq (kk : Ky) (as : List Addr) : Prop := HM.Ok (kle kk) (vw 0 as) as.length 0
theorem entry_sift : entryFor table "_heapq.heapify.sift" = some Builtin.«_heapq.heapify.sift» := entryFor_of_fast (by kernel_rfl)
theorem sift_run (hu : A.in1.units < cLine) {H0 : Hp} {as0 : List Addr} {R : Result → Shared → Prop} {res : Value} (hK : ∀ ys, Keys X.K (upd H0 l (.lst ys)) as0 kk)
    (fin : ∀ as' s', as'.Perm as0 → Hq kk as' → Inv X pins σ (upd H0 l (.lst (as'.map V.ref))) s' → R (.ok (.ret res)) s') :
    ∀ (m : Nat) (dn : Bool) (p t : Nat) (k : Int) (as : List Addr) (s : Shared), mu as.length dn p k < m → as.Perm as0 → PI kk dn p t k as → Inv X pins σ (upd H0 l (.lst (as.map V.ref))) s →
      codeAny (model X.prog X.w) A (hCode l dn p t res k) R s := by
  intro m
  induction m with
  | zero => intro dn p t k as s hm; omega
  | succ m ih =>
    intro dn p t k as s hm hp ⟨h1, h2, h3, h4⟩ I
    have hk : Keys X.K (upd H0 l (.lst (as.map V.ref))) as kk := fun a ha => hK _ a (hp.mem_iff.mp ha)
    have go : ∀ (f : PySem.Fin) (s' : Shared), Nxt X pins σ l (upd H0 l (.lst (as.map V.ref))) (fun dn p t k as' => as'.Perm as0 ∧ PI kk dn p t k as' ∧ mu as'.length dn p k < m) res (fun as' => as'.Perm as0 ∧ Hq kk as') f s' →
        match f with | .done f => R (.ok f) s' | .again c' => c'.quiet = true ∧ codeAny (model X.prog X.w) A c' R s' := fun f s' hN => by
      rcases hN with ⟨dn', p', t', k', as', rfl, I', hP⟩ | ⟨as', rfl, I', hF⟩
      · rw [upd_upd] at I'
        exact ⟨hCode_quiet _ _ _ _ _ _, ih dn' p' t' k' as' s' hP.2.2 hP.1 hP.2.1 I'⟩
      · rw [upd_upd] at I'
        exact fin as' s' hF.1 hF.2 I'
    refine codeAny_builtin entry_sift ?_
    rw [Around.under_plainId (id := "_heapq.heapify.sift") (by decide +kernel) _]
    have htp := h2.ge
    cases dn with
    | true =>
      refine wpAny_mono (turn_down (E := fun e s' => R (.error e) s') I upd_same hk hu h1 (fun hle => ?_) (fun ch x y hc hn hx hy hmin => ?_)) go (fun _ _ e => e)
      · refine ⟨hp, ⟨h1, h2, h3, down_end h4 hle⟩, ?_⟩
        unfold mu at hm ⊢
        dsimp only at hm ⊢
        omega
      · have hcp := hc.par
        refine ⟨(swL_perm hx hy).trans hp, ⟨by rw [swL_len]; exact hn, h2.step hc, h3, ?_⟩, ?_⟩
        · show Dn (kle kk) (vw 0 (swL as ch p x y)) (swL as ch p x y).length t ch
          rw [vw_sw hx hy, swL_len]
          refine down_step h4 htp hc hn fun c hcn hcc => ?_
          obtain ⟨z, hz⟩ : ∃ z, as[c]? = some z := ⟨_, List.getElem?_eq_getElem hcn⟩
          rw [vw_at hx, vw_at hz]
          exact hmin c z hz hcc
        · rw [swL_len]
          unfold mu at hm ⊢
          dsimp only at hm ⊢
          omega
    | false =>
      refine wpAny_mono (turn_up (E := fun e s' => R (.error e) s') I upd_same hk hu h1 htp (fun q x y hc ht hx hy hle => ?_) (fun hm2 hneg => ?_) (fun hm2 hpos => ?_)) go (fun _ _ e => e)
      · have hcp := hc.par
        have hs := h2.up hc ht
        refine ⟨(swL_perm hx hy).trans hp, ⟨by rw [swL_len]; omega, hs, h3, ?_⟩, ?_⟩
        · show Up (kle kk) (vw 0 (swL as q p x y)) (swL as q p x y).length t q
          rw [vw_sw hx hy, swL_len]
          exact up_step (kle_tr kk) h4 h1 hc hs.ge (by rw [vw_at hx, vw_at hy]; exact hle)
        · rw [swL_len]
          unfold mu at hm ⊢
          dsimp only at hm ⊢
          omega
      · have ht0 : t = 0 := by omega
        subst ht0
        refine ⟨hp, up_end h4 fun q hc htq => ?_⟩
        have hcp := hc.par
        have e1 : as[q]? = some as[q] := List.getElem?_eq_getElem (by omega)
        have e2 : as[p]? = some as[p] := List.getElem?_eq_getElem h1
        rw [vw_at e1, vw_at e2]
        exact hm2 q _ _ hc (by omega) e1 e2
      · have hok : HM.Ok (kle kk) (vw 0 as) as.length t := up_end h4 fun q hc htq => by
          have hcp := hc.par
          have e1 : as[q]? = some as[q] := List.getElem?_eq_getElem (by omega)
          have e2 : as[p]? = some as[p] := List.getElem?_eq_getElem h1
          rw [vw_at e1, vw_at e2]
          exact hm2 q _ _ hc (by omega) e1 e2
        have et : t = k.toNat + 1 := by omega
        rw [et] at hok
        refine ⟨hp, ⟨by omega, .base, by omega, next_dn hok⟩, ?_⟩
        unfold mu at hm ⊢
        dsimp only at hm ⊢
        have e3 : (k + 1).toNat = k.toNat + 1 := by omega
        have e4 : (k - 1 + 1).toNat = k.toNat := by omega
        rw [e3, Nat.succ_mul] at hm
        rw [e4]
        generalize k.toNat * (2 * as.length + 3) = M at hm ⊢
        omega
end
theorem kind_pop : builtinKind "_heapq.heappop" = none := by decide +kernel
theorem plain_pop : plainId "_heapq.heappop" = true := by decide +kernel
theorem entry_pop : entryFor table "_heapq.heappop" = some Builtin.«_heapq.heappop» := entryFor_of_fast (by kernel_rfl)
theorem args_pop (a : Value) : argsOk "_heapq.heappop" ⟨[a], []⟩ := by unfold argsOk; kernel_rfl
section
variable {X : Cx}
def rPop (K : PySem.W.Frag) : List V → Hp → VK → Prop := fun vs H Q => ∃ (l : Addr) (as : List Addr) (kk : Ky), vs = [.ref l] ∧ H l = some (.lst (as.map V.ref)) ∧ Keys K H as kk ∧ Hq kk as ∧ as ≠ [] ∧
  ∀ a as', as.Perm (a :: as') → (∀ b ∈ as, kle kk a b) → Hq kk as' → Q (.ref a) (upd H l (.lst (as'.map V.ref)))
theorem cr_heappop (hu : X.A.units + 2 < cLine) : CallR X (.builtin "_heapq.heappop") (rPop X.K) := by
  intro pins s σ H vs us Q I r h
  obtain ⟨l, as, kk, rfl, hH, hk, hq, hne, q⟩ := h
  obtain ⟨u, rfl, rx⟩ := vals1 r
  cases rx
  obtain ⟨n, e, hz⟩ := list_at I hH
  refine call_function_any kind_pop plain_pop entry_pop (args_pop _) ?_
  have f3 := AutoSeq1.sub_list_list
  have tl : s.TypeIs (.ref l) "list" := ⟨_, e, rfl⟩
  show wpAny _ _ (Builtin.«_heapq.heappop» ⟨[.ref l], []⟩) _ _ _
  wp_walk using wpAny_load e
  obtain ⟨init, z, rfl⟩ : ∃ init z, as = init ++ [z] := by
    rcases List.eq_nil_or_concat as with h | ⟨i, z, h⟩
    · exact absurd h hne
    · exact ⟨i, z, by simpa using h⟩
  have eb : ((init ++ [z]).map Value.ref).toArray.back? = some (.ref z) := by simp
  rw [eb]
  have hz0 : (init ++ [z]).length ≤ sizeLine := hz
  have hzi : init.length ≤ sizeLine := by
    rw [List.length_append] at hz
    omega
  have I1 : L2.Inv X pins σ (upd H l (.lst (init.map V.ref))) { s with heap := s.heap.update l (Obj.mapSeq fun x => x.pop) } :=
    I.lset (its' := init.map Value.ref) (t' := s.toks) hH e (by simp) (vals_refs _) (by rw [List.length_map]; exact hzi)
  refine wpAny_bind (wpAny_updateSeq e rfl ?_ (by rw [List.size_toArray, List.length_map]; exact hz0) (by simp; omega))
  cases init with
  | nil =>
    rw [if_pos (by simp)]
    refine wpAny_pure ⟨.ref z, _, I1, rfl, q z [] (List.Perm.refl _) (fun b hb => ?_) ?_⟩
    · have : b = z := by simpa using hb
      rw [this]
      exact kle_rf _ _
    · intro p c hc
      exact absurd hc (Nat.not_lt_zero _)
  | cons x m =>
    rw [if_neg (by simp)]
    have g0 : ((x :: m ++ [z]).map Value.ref).toArray[0]? = some (.ref x) := by simp
    refine wpAny_bind (at_run (X := X) (ys := ((x :: m ++ [z]).map Value.ref).toArray) (k := 0) g0 ?_)
    obtain ⟨n1, e1, hz1⟩ := list_at I1 upd_same
    have I2 : L2.Inv X pins σ (upd H l (.lst ((z :: m).map V.ref))) { s with heap := (s.heap.update l (Obj.mapSeq fun x => x.pop)).update l (Obj.mapSeq fun x => x.setIfInBounds 0 (.ref z)) } := by
      have I2 := I1.lset (its' := (z :: m).map Value.ref) (ys := (z :: m).map V.ref) (f := fun x => x.setIfInBounds 0 (.ref z)) (t' := s.toks) upd_same e1 (by simp) (vals_refs _) (by simpa using hz1)
      rw [upd_upd] at I2
      exact I2
    refine wpAny_bind (wpAny_updateSeq e1 rfl ?_ (by rw [List.size_toArray, List.length_map]; exact hz1) (by have h9 := hz1; simp at h9 ⊢; omega))
    refine wpAny_pure (a := PySem.Fin.again (hCode l true 0 0 (.ref x) (-1))) ⟨hCode_quiet _ _ _ _ _ _, ?_⟩
    have hperm : (x :: m ++ [z]).Perm (x :: (z :: m)) := List.Perm.cons _ (List.perm_append_comm (l₁ := m) (l₂ := [z]))
    refine sift_run (A := X.A) (by show X.A.units + 1 < _; omega) (H0 := H) (as0 := z :: m) (kk := kk) (fun ys a ha => keys_upd hH hk ys a (hperm.mem_iff.mpr (List.mem_cons_of_mem _ ha))) (fun as' s' hp' hq' I' => ?_) _ true 0 0 (-1) (z :: m) _ (Nat.lt_succ_self _) (List.Perm.refl _) ⟨by simp, .base, rfl, ?_⟩ I2
    · refine ⟨.ref x, _, I', rfl, q x as' (hperm.trans (List.Perm.cons _ hp'.symm)) (fun b hb => ?_) hq'⟩
      obtain ⟨i, hi, ei⟩ := List.mem_iff_getElem.mp hb
      have h1 := root_least (kle_rf kk) (kle_tr kk) hq i hi
      rw [vw_at (x := x) (by simp), vw_at (x := b) (by rw [List.getElem?_eq_getElem hi, ei])] at h1
      exact h1
    · show Dn (kle kk) (vw 0 (z :: m)) (z :: m).length 0 0
      have hq2 : HM.Ok (kle kk) (vw 0 (x :: m ++ [z])) (m.length + 1 + 1) 0 := by
        have : (x :: m ++ [z]).length = m.length + 1 + 1 := by simp
        unfold Hq at hq
        rw [this] at hq
        exact hq
      refine pop_dn hq2 fun i h0 hi => ?_
      obtain ⟨j, rfl⟩ : ∃ j, i = j + 1 := ⟨i - 1, by omega⟩
      have hj : j < m.length := by
        rw [List.length_cons] at hi
        omega
      rw [vw_at (x := m[j]) (by rw [List.getElem?_cons_succ, List.getElem?_eq_getElem hj]), vw_at (x := m[j]) (by rw [List.cons_append, List.getElem?_cons_succ, List.getElem?_append_left hj, List.getElem?_eq_getElem hj])]

theorem kind_push : builtinKind "_heapq.heappush" = none := by decide +kernel
theorem plain_push : plainId "_heapq.heappush" = true := by decide +kernel
theorem entry_push : entryFor table "_heapq.heappush" = some Builtin.«_heapq.heappush» := entryFor_of_fast (by kernel_rfl)
theorem args_push (a b : Value) : argsOk "_heapq.heappush" ⟨[a, b], []⟩ := by unfold argsOk; kernel_rfl
def rPush (K : PySem.W.Frag) : List V → Hp → VK → Prop := fun vs H Q => ∃ (l x : Addr) (as : List Addr) (kk : Ky), vs = [.ref l, .ref x] ∧ H l = some (.lst (as.map V.ref)) ∧ Keys K H (x :: as) kk ∧ Hq kk as ∧ as.length < sizeLine ∧
  ∀ as', as'.Perm (x :: as) → Hq kk as' → Q .non (upd H l (.lst (as'.map V.ref)))
theorem cr_heappush (hu : X.A.units + 2 < cLine) : CallR X (.builtin "_heapq.heappush") (rPush X.K) := by
  intro pins s σ H vs us Q I r h
  obtain ⟨l, x, as, kk, rfl, hH, hk, hq, hlt, q⟩ := h
  obtain ⟨u, u2, rfl, rx, ry⟩ := vals2 r
  cases rx
  cases ry
  obtain ⟨n, e, hz⟩ := list_at I hH
  refine call_function_any kind_push plain_push entry_push (args_push _ _) ?_
  have f3 := AutoSeq1.sub_list_list
  have tl : s.TypeIs (.ref l) "list" := ⟨_, e, rfl⟩
  show wpAny _ _ (Builtin.«_heapq.heappush» ⟨[.ref l, .ref x], []⟩) _ _ _
  have I1 : L2.Inv X pins σ (upd H l (.lst ((as ++ [x]).map V.ref))) { s with heap := s.heap.update l (Obj.mapSeq fun ys => ys.push (.ref x)) } :=
    I.lset (its' := (as ++ [x]).map Value.ref) (t' := s.toks) hH e (by simp) (vals_refs _) (by rw [List.length_map, List.length_append]; exact hlt)
  obtain ⟨n1, e1, hz1⟩ := list_at I1 upd_same
  have hs1 : (as.map Value.ref).toArray.size ≤ sizeLine := by simpa using hz
  have hs2 : ((as.map Value.ref).toArray.push (.ref x)).size ≤ sizeLine + 1 := by simp; omega
  wp_walk using wpAny_load e, wpAny_load e1, (wpAny_updateSeq e rfl (hz := hs1) (_hz' := hs2))
  show (hCode l false ((List.map Value.ref (as ++ [x])).toArray.size - 1) 0 .none (-1)).quiet = true ∧ codeAny (model X.prog X.w) X.A (hCode l false ((List.map Value.ref (as ++ [x])).toArray.size - 1) 0 .none (-1)) _ _
  have es : (List.map Value.ref (as ++ [x])).toArray.size - 1 = as.length := by simp
  rw [es]
  have hperm : (as ++ [x]).Perm (x :: as) := List.perm_append_comm (l₁ := as) (l₂ := [x])
  have sub0 : ∀ c, Sub 0 c := fun c => by
    induction c using Nat.strongRecOn with
    | _ c ih =>
      by_cases h0 : c = 0
      · rw [h0]
        exact .base
      · have hc := Child.of (c := c) (by omega)
        exact .step (ih _ hc.par.2) hc
  refine ⟨hCode_quiet _ _ _ _ _ _, sift_run (A := X.A) (by show X.A.units + 1 < _; omega) (H0 := H) (as0 := as ++ [x]) (kk := kk) (fun ys a ha => keys_upd hH hk ys a (hperm.mem_iff.mp ha)) (fun as' s' hp' hq' I' => ?_) _ false as.length 0 (-1) (as ++ [x]) _ (Nat.lt_succ_self _) (List.Perm.refl _) ⟨by simp, sub0 _, rfl, ?_⟩ I1⟩
  · exact ⟨.non, _, I', rfl, q as' (hp'.trans hperm) hq'⟩
  · show Up (kle kk) (vw 0 (as ++ [x])) (as ++ [x]).length 0 as.length
    rw [List.length_append]
    refine push_up hq fun i hi => ?_
    rw [vw_at (x := as[i]) (by rw [List.getElem?_append_left hi, List.getElem?_eq_getElem hi]), vw_at (x := as[i]) (by rw [List.getElem?_eq_getElem hi])]
theorem kind_ify : builtinKind "_heapq.heapify" = none := by decide +kernel
theorem plain_ify : plainId "_heapq.heapify" = true := by decide +kernel
theorem entry_ify : entryFor table "_heapq.heapify" = some Builtin.«_heapq.heapify» := entryFor_of_fast (by kernel_rfl)
theorem args_ify (a : Value) : argsOk "_heapq.heapify" ⟨[a], []⟩ := by unfold argsOk; kernel_rfl
def rIfy (K : PySem.W.Frag) : List V → Hp → VK → Prop := fun vs H Q => ∃ (l : Addr) (as : List Addr) (kk : Ky), vs = [.ref l] ∧ H l = some (.lst (as.map V.ref)) ∧ Keys K H as kk ∧ as.length ≤ 2500 ∧
  ∀ as', as'.Perm as → Hq kk as' → Q .non (upd H l (.lst (as'.map V.ref)))
theorem cr_heapify (hu : X.A.units + 2 < cLine) : CallR X (.builtin "_heapq.heapify") (rIfy X.K) := by
  intro pins s σ H vs us Q I r h
  obtain ⟨l, as, kk, rfl, hH, hk, hlt, q⟩ := h
  obtain ⟨u, rfl, rx⟩ := vals1 r
  cases rx
  obtain ⟨n, e, hz⟩ := list_at I hH
  refine call_function_any kind_ify plain_ify entry_ify (args_ify _) ?_
  have f3 := AutoSeq1.sub_list_list
  have tl : s.TypeIs (.ref l) "list" := ⟨_, e, rfl⟩
  show wpAny _ _ (Builtin.«_heapq.heapify» ⟨[.ref l], []⟩) _ _ _
  have h25 : ¬ (as.map Value.ref).toArray.size > 2500 := by simp; omega
  wp_walk using wpAny_load e
  have es : (as.map Value.ref).toArray.size = as.length := by simp
  rw [es]
  by_cases h2 : as.length < 2
  · rw [if_pos h2]
    refine wpAny_pure ⟨.non, _, I, rfl, ?_⟩
    have := q as (List.Perm.refl _) (fun p c hc hpc => by have := hpc.par; omega)
    rw [upd_self hH] at this
    exact this
  · rw [if_neg h2]
    refine wpAny_pure (a := PySem.Fin.again (hCode l true (as.length / 2 - 1) (as.length / 2 - 1) .none (((as.length / 2 : Nat) : Int) - 2))) ⟨hCode_quiet _ _ _ _ _ _, ?_⟩
    have I0 : L2.Inv X pins σ (upd H l (.lst (as.map V.ref))) s := by
      rw [upd_self hH]
      exact I
    refine sift_run (A := X.A) (by show X.A.units + 1 < _; omega) (H0 := H) (as0 := as) (kk := kk) (fun ys a ha => keys_upd hH hk ys a ha) (fun as' s' hp' hq' I' => ⟨.non, _, I', rfl, q as' hp' hq'⟩) _ true _ _ _ as _ (Nat.lt_succ_self _) (List.Perm.refl _) ⟨by omega, .base, by omega, start_dn (by omega)⟩ I0
end

theorem hu2 {A : Around} {k : Nat} (hr : Room k A) : A.units + 2 < cLine := by
  have := hr.un
  omega
theorem hq_congr {kk kk' : Ky} {as : List Addr} (h : Hq kk as) (e : ∀ a ∈ as, kk' a = kk a) : Hq kk' as := by
  intro p c hc hpc ht
  have hp := hpc.par
  have h0 := h p c hc hpc ht
  have e1 : as[p]? = some as[p] := List.getElem?_eq_getElem (by omega)
  have e2 : as[c]? = some as[c] := List.getElem?_eq_getElem hc
  rw [vw_at e1, vw_at e2] at h0 ⊢
  unfold kle at h0 ⊢
  rw [e _ (List.getElem_mem _), e _ (List.getElem_mem _)]
  exact h0
theorem keys_congr {K : PySem.W.Frag} {H : Hp} {kk kk' : Ky} {as : List Addr} (h : Keys K H as kk) (e : ∀ a ∈ as, kk' a = kk a) : Keys K H as kk' := fun a ha => by
  unfold kl
  rw [e a ha]
  exact h a ha
end HQ

set_option maxHeartbeats 4000000
/-! pairing over a list kept in order: the mathematics -/
namespace HF
/-- a node: its weight, its number -/
abbrev Nd := Int × Int
def nle (a b : Nd) : Prop := a.1 < b.1 ∨ (a.1 = b.1 ∧ a.2 ≤ b.2)
instance (a b : Nd) : Decidable (nle a b) := inferInstanceAs (Decidable (a.1 < b.1 ∨ (a.1 = b.1 ∧ a.2 ≤ b.2)))
theorem nle_tr {a b c : Nd} (h : nle a b) (h' : nle b c) : nle a c := by
  unfold nle at *
  omega
theorem nle_tot (a b : Nd) : nle a b ∨ nle b a := by
  unfold nle
  omega
theorem nle_anti {a b : Nd} (h : nle a b) (h' : nle b a) : a = b := by
  unfold nle at *
  exact Prod.ext (by omega) (by omega)
def ins (x : Nd) : List Nd → List Nd
  | [] => [x]
  | y :: r => if nle x y then x :: y :: r else y :: ins x r
def srt : List Nd → List Nd
  | [] => []
  | x :: r => ins x (srt r)
def Sorted : List Nd → Prop
  | [] => True
  | x :: r => (∀ y ∈ r, nle x y) ∧ Sorted r
theorem ins_perm (x : Nd) : ∀ l, (ins x l).Perm (x :: l)
  | [] => List.Perm.refl _
  | y :: r => by
    unfold ins
    split
    · exact List.Perm.refl _
    · exact (List.Perm.cons y (ins_perm x r)).trans (List.Perm.swap x y r)
theorem ins_len (x : Nd) (l : List Nd) : (ins x l).length = l.length + 1 := (ins_perm x l).length_eq
theorem ins_sorted (x : Nd) : ∀ {l}, Sorted l → Sorted (ins x l)
  | [], _ => ⟨fun y hy => (nomatch hy), True.intro⟩
  | y :: r, ⟨h1, h2⟩ => by
    unfold ins
    split
    · rename_i h
      exact ⟨fun z hz => by
        rcases List.mem_cons.mp hz with rfl | hz
        · exact h
        · exact nle_tr h (h1 z hz), h1, h2⟩
    · rename_i h
      refine ⟨fun z hz => ?_, ins_sorted x h2⟩
      rcases List.mem_cons.mp ((ins_perm x r).mem_iff.mp hz) with rfl | hz
      · exact (nle_tot z y).resolve_left h
      · exact h1 z hz
theorem srt_perm : ∀ l, (srt l).Perm l
  | [] => List.Perm.refl _
  | x :: r => (ins_perm x (srt r)).trans (List.Perm.cons x (srt_perm r))
theorem srt_sorted : ∀ l, Sorted (srt l)
  | [] => True.intro
  | x :: r => ins_sorted x (srt_sorted r)
theorem srt_len (l : List Nd) : (srt l).length = l.length := (srt_perm l).length_eq
/-- the least of a heap is the first in order -/
theorem least_is {a : Nd} {l fr : List Nd} (hp : (a :: l).Perm fr) (hm : ∀ b ∈ a :: l, nle a b) (hs : Sorted fr) : ∃ r, fr = a :: r ∧ l.Perm r ∧ Sorted r := by
  cases fr with
  | nil => exact absurd hp.length_eq (by simp)
  | cons b r =>
    obtain ⟨h1, h2⟩ := hs
    have e : a = b := by
      refine nle_anti (hm b (hp.mem_iff.mpr List.mem_cons_self)) ?_
      rcases List.mem_cons.mp (hp.mem_iff.mp List.mem_cons_self) with e | h
      · rw [e]
        rcases nle_tot b b with h | h <;> exact h
      · exact h1 a h
    subst e
    exact ⟨r, rfl, hp.cons_inv, h2⟩
/-- the pairs, in the order in which they are made; k: the next number -/
def huff : Nat → List Nd → Int → List (Int × Int)
  | f + 1, a :: b :: r, k => (a.2, b.2) :: huff f (ins (a.1 + b.1, k) r) (k + 1)
  | _, _, _ => []
theorem huff_two (a b : Nd) (r : List Nd) (k : Int) : huff (a :: b :: r).length (a :: b :: r) k = (a.2, b.2) :: huff (ins (a.1 + b.1, k) r).length (ins (a.1 + b.1, k) r) (k + 1) := by
  rw [ins_len]
  rfl
theorem huff_end {fr : List Nd} (h : fr.length ≤ 1) (k : Int) (f : Nat) : huff f fr k = [] := by
  cases f with
  | zero => rfl
  | succ f =>
    match fr, h with
    | [], _ => rfl
    | [_], _ => rfl
    | _ :: _ :: _, h => simp at h
def nodes (ns : List Int) : List Nd := ns.zipIdx.map fun p => (p.1, (p.2 : Int))
def made (ns : List Int) : List (Int × Int) := huff ns.length (srt (nodes ns)) ns.length
theorem nodes_len (ns : List Int) : (nodes ns).length = ns.length := by simp [nodes]
theorem made_eq (ns : List Int) : made ns = huff (srt (nodes ns)).length (srt (nodes ns)) ns.length := by
  rw [srt_len, nodes_len]
  rfl
theorem nodes_at {ns : List Int} {i : Nat} {x : Int} (h : ns[i]? = some x) : (nodes ns)[i]? = some (x, (i : Int)) := by
  unfold nodes
  rw [List.getElem?_map, List.getElem?_zipIdx, h]
  simp
theorem huff_len : ∀ (m : Nat) (fr : List Nd) (k : Int), fr.length = m → (huff fr.length fr k).length = fr.length - 1
  | 0, fr, k, h => by rw [huff_end (by omega)]; simp; omega
  | 1, fr, k, h => by rw [huff_end (by omega)]; simp; omega
  | m + 2, fr, k, h => by
    match fr, h with
    | a :: b :: r, h =>
      rw [huff_two, List.length_cons, huff_len (m + 1) _ _ (by rw [ins_len]; simpa using h), ins_len]
      simp
theorem made_len (ns : List Int) : (made ns).length = ns.length - 1 := by
  rw [made_eq, huff_len _ _ _ rfl, srt_len, nodes_len]
end HF

set_option maxHeartbeats 4000000
namespace SP
open PySem L2 Evl
/-- pairs of ints that stand at the addresses -/
def Rws (H : Hp) (ts : List Addr) (rows : List (Int × Int)) : Prop := ts.length = rows.length ∧ ∀ (i : Nat) t r, ts[i]? = some t → rows[i]? = some r → H t = some (.tup [.int r.1, .int r.2])
theorem Rws.ex {H H' : Hp} {ts : List Addr} {rows : List (Int × Int)} (h : Rws H ts rows) (e : Ex H H') : Rws H' ts rows := ⟨h.1, fun i t r h1 h2 => e _ _ (h.2 i t r h1 h2)⟩
theorem Rws.nil {H : Hp} : Rws H [] [] := ⟨rfl, fun i t r h => by simp at h⟩
theorem Rws.snoc {H : Hp} {ts : List Addr} {rows : List (Int × Int)} {t : Addr} {r : Int × Int} (h : Rws H ts rows) (ht : H t = some (.tup [.int r.1, .int r.2])) : Rws H (ts ++ [t]) (rows ++ [r]) := by
  refine ⟨by rw [List.length_append, List.length_append, h.1]; rfl, fun i u q h1 h2 => ?_⟩
  by_cases hi : i < ts.length
  · rw [List.getElem?_append_left hi] at h1
    rw [List.getElem?_append_left (by rw [← h.1]; exact hi)] at h2
    exact h.2 i u q h1 h2
  · rw [List.getElem?_append_right (by omega)] at h1
    rw [List.getElem?_append_right (by rw [← h.1]; omega), ← h.1] at h2
    have hz : i - ts.length = 0 := by
      have := (List.getElem?_eq_some_iff.mp h1).1
      simp at this
      omega
    rw [hz] at h1 h2
    cases h1
    cases h2
    exact ht
/-- a list is changed: the tuples stand -/
theorem Rws.upd {H : Hp} {ts : List Addr} {rows : List (Int × Int)} {l : Addr} {xs ys : List V} (h : Rws H ts rows) (hl : H l = some (.lst xs)) : Rws (upd H l (.lst ys)) ts rows :=
  ⟨h.1, fun i t r h1 h2 => by rw [upd_ne (ne_of (h.2 i t r h1 h2) hl fun z => nomatch z)]; exact h.2 i t r h1 h2⟩
/-- a new list of pairs -/
def RetR (rows : List (Int × Int)) (H : Hp) (Q : VK) : Prop := ∀ (p : Addr) (ts : List Addr) H2, H p = none → Ex H H2 → H2 p = some (.lst (ts.map V.ref)) → Rws H2 ts rows → Q (.ref p) H2
section
variable {K : PySem.W.Frag} {σ : L2.St} {H H' : Hp} {ta tb te tx : TE} {t u : TT} {x y z v : V} {D : Ends} {tz : TS}
/-- name = [(.., ..) for number, item in enumerate(list)]: a new list of new tuples -/
theorem q_enumTups {ta : TA} {a : Addr} {xs : List V} {i j slot : Nat} {vs : List Nat} (f : Nat → List V) (h : EvA ta σ H [.ref a]) (hx : SqL K H a xs) (hz : xs.length ≤ 40000) (hw : ∀ x y, wipe (((wipe σ vs).set i (some x)).set j (some y)) vs = wipe σ vs)
    (he : ∀ (k : Nat) (x : V) H1, Ex H H1 → xs[k]? = some x → EvU te (((wipe σ vs).set i (some (.int (k : Int)))).set j (some x)) H1 (f k))
    (kk : ∀ (p : Addr) (ts : List Addr) H1, H p = none → Ex H H1 → H1 p = some (.lst (ts.map V.ref)) → ts.length = xs.length → (∀ (k : Nat) t, ts[k]? = some t → H1 t = some (.tup (f k))) → tz D (σ.set slot (some (.ref p))) H1) :
    tSeq (tAsg (tLc (iEnum K ta) (gTup K 2 (gCons (gName i) (gCons (gName j) gNil))) tYes te vs) (gName slot)) tz D σ H :=
  h H (Ex.refl H) _ fun H1 e1 => ⟨a, xs, rfl, ex_l e1 hx, fun Dl hD =>
    lc_it walk_enum (fun n H' => H1 Dl = none ∧ Ex H1 H' ∧ ∃ ts : List Addr, ts.length = n ∧ H' Dl = some (.lst (ts.map V.ref)) ∧ ∀ (k : Nat) t, ts[k]? = some t → H' t = some (.tup (f k)))
      ⟨hD, Ex.new hD, [], rfl, upd_same, fun k t hk => by simp at hk⟩ (fun k H' _ p => ex_l (e1.trans p.2.1) hx) (fun k v H' H2 hk p yy => by
        obtain ⟨T, x, z, rfl, hT, rfl, g1, g2⟩ := yy
        obtain ⟨p1, p2, ts, p3, p4, p5⟩ := p
        cases g1
        refine ⟨T, [_, z], rfl, st_of upd_same, rfl, _, [z], rfl, z, [], rfl, rfl, hw _ z, ?_⟩
        show te _ _ _
        have eT := Ex.new (o := .tup [.int (k : Int), z]) hT
        refine he k z H1 e1 g2 _ (p2.trans eT) _ fun q H3 hq e3 h3 => ?_
        have h4 := e3 _ _ (eT _ _ p4)
        refine ⟨ts.map V.ref, h4, sz_lt (by rw [List.length_map]; omega), p1, Ex.mut ((p2.trans eT).trans e3) p1, ts ++ [q], by rw [List.length_append, p3]; rfl, ?_, fun k2 t hk2 => ?_⟩
        · rw [upd_same, List.map_append]
          rfl
        · have aux : ∀ {t o}, H3 t = some (.tup o) → upd H3 Dl (.lst (ts.map V.ref ++ [V.ref q])) t = some (.tup o) := fun {t o} ht => by
            rw [upd_ne (ne_of ht h4 fun z => nomatch z)]
            exact ht
          by_cases hlt : k2 < ts.length
          · rw [List.getElem?_append_left hlt] at hk2
            exact aux (e3 _ _ (eT _ _ (p5 k2 t hk2)))
          · rw [List.getElem?_append_right (by omega)] at hk2
            have hz0 : k2 - ts.length = 0 := by
              have := (List.getElem?_eq_some_iff.mp hk2).1
              simp at this
              omega
            rw [hz0] at hk2
            cases hk2
            have : k2 = k := by omega
            rw [this]
            exact aux h3) (fun H' p => by
        obtain ⟨p1, p2, ts, p3, p4, p5⟩ := p
        exact kk Dl ts H' (fresh_back e1 p1) (e1.trans p2) p4 p3 p5)⟩
end
open HQ in
/-- tuples of two ints stand at the addresses -/
def KeysT (H : Hp) (as : List Addr) (kk : Ky) : Prop := ∀ a ∈ as, H a = some (.tup [.int (kk a).1, .int (kk a).2])
section
open HQ
variable {K : PySem.W.Frag} {σ : L2.St} {H H' : Hp} {te : TE} {D : Ends} {tz : TS} {l : Addr} {as as' : List Addr} {kk : Ky}
theorem KeysT.k (h : KeysT H as kk) : Keys K H as kk := fun a ha => st_of (h a ha)
theorem KeysT.ex (h : KeysT H as kk) (e : Ex H H') : KeysT H' as kk := fun a ha => e _ _ (h a ha)
theorem KeysT.upd {xs ys : List V} (h : KeysT H as kk) (hl : H l = some (.lst xs)) : KeysT (upd H l (.lst ys)) as kk := fun a ha => by
  rw [upd_ne (ne_of (h a ha) hl fun z => nomatch z)]
  exact h a ha
theorem KeysT.sub (h : KeysT H as kk) (hs : ∀ a ∈ as', a ∈ as) : KeysT H as' kk := fun a ha => h a (hs a ha)
theorem q_pop {n i j : Nat} (ha : σ[n]? = some (some (.ref l))) (hl : H l = some (.lst (as.map V.ref))) (hk : KeysT H as kk) (hq : Hq kk as) (hne : as ≠ [])
    (k : ∀ a as', as.Perm (a :: as') → (∀ b ∈ as, kle kk a b) → Hq kk as' → KeysT (L2.upd H l (.lst (as'.map V.ref))) as' kk → tz D ((σ.set i (some (.int (kk a).1))).set j (some (.int (kk a).2))) (L2.upd H l (.lst (as'.map V.ref)))) :
    tSeq (tAsg (tCB (rPop K) (tCons (tVar n) tNil)) (gTup K 2 (gCons (gName i) (gCons (gName j) gNil)))) tz D σ H :=
  ⟨.ref l, ha, l, as, kk, rfl, hl, hk.k, hq, hne, fun a as' hp hm hq' =>
    ⟨a, [.int (kk a).1, .int (kk a).2], rfl, st_of (hk.upd hl a (hp.mem_iff.mpr List.mem_cons_self)), rfl, _, [_], rfl, _, [], rfl, rfl,
      k a as' hp hm hq' ((hk.upd hl).sub fun b hb => hp.mem_iff.mpr (List.mem_cons_of_mem _ hb))⟩⟩
/-- a new pair's key beside the others -/
def kkx (kk : Ky) (x : Addr) (w : Int × Int) : Ky := fun a => if a = x then w else kk a
theorem kkx_x {kk : Ky} {x : Addr} {w : Int × Int} : kkx kk x w x = w := if_pos rfl
theorem kkx_o {kk : Ky} {x a : Addr} {w : Int × Int} (h : a ≠ x) : kkx kk x w a = kk a := if_neg h
theorem q_push {n : Nat} {w k : Int} (ha : σ[n]? = some (some (.ref l))) (hl : H l = some (.lst (as.map V.ref))) (he : EvU te σ H [.int w, .int k]) (hk : KeysT H as kk) (hq : Hq kk as) (hlt : as.length < 100000)
    (c : ∀ x H1 as', H x = none → Ex H H1 → as'.Perm (x :: as) → (∀ a ∈ as, kkx kk x (w, k) a = kk a) → Hq (kkx kk x (w, k)) as' → KeysT (L2.upd H1 l (.lst (as'.map V.ref))) as' (kkx kk x (w, k)) → tz D σ (L2.upd H1 l (.lst (as'.map V.ref)))) :
    tSeq (tDrop (tCB (rPush K) (tCons (tVar n) (tCons te tNil)))) tz D σ H :=
  ⟨.ref l, ha, he H (Ex.refl H) _ fun x H1 hx e1 h1 => by
    have hne : ∀ a ∈ as, kkx kk x (w, k) a = kk a := fun a hm => kkx_o (ne_of_none (hk a hm) hx)
    have hk2 : KeysT H1 (x :: as) (kkx kk x (w, k)) := fun a hm => by
      rcases List.mem_cons.mp hm with e | hm
      · rw [e, kkx_x]
        exact h1
      · rw [hne a hm]
        exact e1 _ _ (hk a hm)
    exact ⟨l, x, as, kkx kk x (w, k), rfl, e1 _ _ hl, hk2.k, hq_congr hq hne, sz_lt hlt, fun as' hp hq' => c x H1 as' hx e1 hp hne hq' ((hk2.upd (e1 _ _ hl)).sub fun a hm => hp.mem_iff.mp hm)⟩⟩
end
end SP

set_option maxHeartbeats 4000000
namespace SP
open PySem L2 Evl
/-- a text by its signs -/
def tx (l : List Nat) : Str := ⟨l.toArray⟩
theorem tx_cps (l : List Nat) : (tx l).cps.toList = l := by simp [tx]
theorem tx_len (l : List Nat) : (tx l).length = l.length := by simp [tx, Str.length]
theorem tx_app (a b : List Nat) : tx a ++ tx b = tx (a ++ b) := by
  show (⟨a.toArray ++ b.toArray⟩ : Str) = ⟨(a ++ b).toArray⟩
  simp
theorem tx_inj {a b : List Nat} (h : tx a = tx b) : a = b := by
  have := congrArg (fun z : Str => z.cps.toList) h
  simpa [tx] using this
theorem tx_one (c : Nat) : (⟨#[c]⟩ : Str) = tx [c] := rfl
theorem occ_count (x : Str) (c : Nat) : ∀ (k i : Nat) (st : Array Nat × Nat), i + k = x.cps.toList.length + 1 → st.fst.size ≤ i → st.snd ≤ i →
    (forIn (List.range' i k) st (StrLaws.occBody x ⟨#[c]⟩ x.length (x.length + 1))).run.fst.size = st.fst.size + (x.cps.toList.drop i).count c
  | 0, i, st, h, _, _ => by
    rw [List.drop_of_length_le (by omega)]
    rfl
  | k + 1, i, st, h, h1, h2 => by
    have hl : x.length = x.cps.toList.length := by simp [Str.length]
    rw [List.range'_succ, List.forIn_cons]
    unfold StrLaws.occBody
    have key := StrLaws.subAt_one x c i
    by_cases hc : x.cps.toList[i]? = some c
    · obtain ⟨k1, k2⟩ := key.mpr hc
      have hi : i < x.cps.toList.length := (List.getElem?_eq_some_iff.mp hc).1
      rw [if_pos ⟨⟨⟨by rw [hl]; omega, h2⟩, k1⟩, k2⟩]
      have ih := occ_count x c k (i + 1) (st.fst.push i, i + (⟨#[c]⟩ : Str).length) (by omega) (by simp; omega) (by show i + 1 ≤ i + 1; omega)
      refine Eq.trans ih ?_
      have e : x.cps.toList.drop i = c :: x.cps.toList.drop (i + 1) := by
        rw [List.drop_eq_getElem_cons hi]
        congr 1
        exact (List.getElem?_eq_some_iff.mp hc).2
      rw [e, List.count_cons]
      simp
      omega
    · rw [if_neg (fun z => hc (key.mp ⟨z.1.2, z.2⟩))]
      have ih := occ_count x c k (i + 1) st (by omega) (by omega) (by omega)
      refine Eq.trans ih ?_
      congr 1
      by_cases hi : i < x.cps.toList.length
      · rw [List.drop_eq_getElem_cons hi, List.count_cons, if_neg (fun z => hc (by rw [List.getElem?_eq_getElem hi, eq_of_beq z]))]
        rfl
      · rw [List.drop_of_length_le (by omega), List.drop_of_length_le (by omega)]
theorem count_one (l : List Nat) (c : Nat) : Txt.count (tx l) (tx [c]) = ((l.count c : Nat) : Int) := by
  show (((Builtin.Str.occurrences (tx l) ⟨#[c]⟩ 0 (tx l).length ((tx l).length + 1)).length : Nat) : Int) = _
  rw [StrLaws.occ_eq, Array.length_toList]
  have h := occ_count (tx l) c ((tx l).length + 1) 0 (#[], 0) (by rw [tx_cps, tx_len]; omega) (Nat.le_refl _) (Nat.le_refl _)
  rw [tx_cps, List.drop_zero] at h
  exact congrArg (fun n : Nat => (n : Int)) (h.trans (by simp))
theorem join_ones : ∀ l : List Nat, Txt.join (tx []) (l.map fun c => tx [c]) = tx l := fun l => by
  show Builtin.Str.glued _ _ = _
  rw [StrLaws.glued_eq_join]
  induction l with
  | nil => rfl
  | cons a r ih =>
    cases r with
    | nil => rfl
    | cons b r =>
      show tx [a] ++ tx [] ++ Str.join (tx []) ((b :: r).map fun c => tx [c]) = tx (a :: b :: r)
      rw [ih, tx_app, tx_app]
      rfl
section
variable {K : PySem.W.Frag} {σ : L2.St} {H H' : Hp} {ta tb te tx' : TE} {t u : TT} {x y z v : V}
/-- a method of a text -/
theorem ev_bmS {r : V → List V → Hp → VK → Prop} {s : Str} {ta : TA} {vs : List V} (ho : Ev te σ H (.str s)) (ha : EvA ta σ H vs) (hr : ∀ H1, Ex H H1 → ∀ Q : VK, (∀ H2, Ex H1 H2 → Q z H2) → r (.str s) vs H1 Q) : Ev (tBM K "str" r te ta) σ H z := fun H1 e Q q =>
  ho H1 e _ fun H2 e2 => ⟨rfl, ha H2 (e.trans e2) _ fun H3 e3 => hr H3 ((e.trans e2).trans e3) Q fun H4 e4 => q H4 ((e2.trans e3).trans e4)⟩
/-- sep.join(a new list of texts) -/
theorem ev_joinN {sep : Str} {ys : List Str} (ho : Ev te σ H (.str sep)) (hl : EvL tb σ H (ys.map V.str)) (hz : (ys.map (·.length)).sum + ys.length * sep.length ≤ 16777216) :
    Ev (tBM K "str" (fun x xs H Q => ∃ a p, ∃ ys : List Str, x = .str a ∧ xs = [.ref p] ∧ (SqL K H p (ys.map V.str) ∨ SqT K H p (ys.map V.str)) ∧ (ys.map (·.length)).sum + ys.length * a.length ≤ 16777216 ∧ Q (.str (Txt.join a ys)) H) te (tCons tb tNil)) σ H (.str (Txt.join sep ys)) := fun H1 e Q q =>
  ho H1 e _ fun H2 e2 => ⟨rfl, hl H2 (e.trans e2) _ fun p H3 _ e3 h3 => ⟨sep, p, ys, rfl, rfl, .inl (sq_of h3), hz, q H3 (e2.trans e3)⟩⟩
/-- a for over a text, the target a name -/
theorem q_forS {tz : TS} {D : Ends} {tu : TS} {j : Nat} {l : List Nat} (h : Ev te σ H (.str (tx l))) (Pv : Nat → L2.St → Hp → Prop) (h0 : ∀ H1, Ex H H1 → Pv 0 σ H1)
    (hs : ∀ (n : Nat) (c : Nat) (σ' : L2.St) (H' : Hp), l[n]? = some c → Pv n σ' H' → tu { D with nx := Pv (n + 1), ct := Pv (n + 1), bk := tz D } (σ'.set j (some (.str (tx [c])))) H') (hd : ∀ σ' H', Pv l.length σ' H' → tz D σ' H') :
    tSeq (tFor (iStr te) (gName j) tu) tz D σ H :=
  h H (Ex.refl H) _ fun H1 e => ⟨tx l, rfl, for_it walk_str Pv (h0 H1 e) (fun _ _ _ _ _ => True.intro) (fun n v σ' H' H2 hn p y => by
    obtain ⟨rfl, c, hc, rfl⟩ := y
    refine hs n c σ' H2 ?_ p
    rw [← hc]
    simp [tx]) (by
    have e : (tx l).cps.size = l.length := by simp [tx]
    rw [e]
    exact hd)⟩
theorem s_forS {D : Ends} {tu : TS} {j : Nat} {l : List Nat} (h : Ev te σ H (.str (tx l))) (Pv : Nat → L2.St → Hp → Prop) (h0 : ∀ H1, Ex H H1 → Pv 0 σ H1)
    (hs : ∀ (n : Nat) (c : Nat) (σ' : L2.St) (H' : Hp), l[n]? = some c → Pv n σ' H' → tu { D with nx := Pv (n + 1), ct := Pv (n + 1), bk := D.nx } (σ'.set j (some (.str (tx [c])))) H') (hd : ∀ σ' H', Pv l.length σ' H' → D.nx σ' H') :
    tFor (iStr te) (gName j) tu D σ H := q_forS (tz := fun D => D.nx) h Pv h0 hs hd
/-- a comprehension over a text -/
theorem el_mapS {j : Nat} {vs : List Nat} {l : List Nat} (ys : List V) (h : Ev tb σ H (.str (tx l))) (hn : ys.length = l.length) (hz : l.length ≤ 40000) (hw : ∀ x, wipe ((wipe σ vs).set j (some x)) vs = wipe σ vs)
    (he : ∀ (i c : Nat) (y : V) H1, Ex H H1 → l[i]? = some c → ys[i]? = some y → Ev te ((wipe σ vs).set j (some (.str (tx [c])))) H1 y) : EvL (tLc (iStr tb) (gName j) tYes te vs) σ H ys := fun H0 e Q q => h H0 e _ fun H1 e1 => ⟨tx l, rfl, fun Dl hD =>
  lc_it walk_str (Cm H1 ys Dl) ⟨hD, Ex.new hD, upd_same⟩ (fun _ _ _ _ => True.intro) (fun i v H' H2 hi p yy => by
    obtain ⟨rfl, c, hc, rfl⟩ := yy
    have hc' : l[i]? = some c := by
      rw [← hc]
      simp [tx]
    obtain ⟨y, hy⟩ := get_of hn (List.getElem?_eq_some_iff.mp hc').1
    refine ⟨hw _, ?_⟩
    show te _ H2 _
    exact cm_turn p (Ex.refl _) hy (by omega) (he i c y H1 (e.trans e1) hc' hy)) (fun H' p => by
    have ec : (tx l).cps.size = l.length := by simp [tx]
    rw [ec] at p
    exact q Dl H' (fresh_back e1 p.1) (e1.trans p.2.1) (cm_end p hn))⟩
end
end SP

set_option maxHeartbeats 4000000
/-! the law's own walk over the pairs: the mathematics -/
namespace HF
def key (W : List Int) (k : Int) : Nd := (W.getD k.toNat 0, k)
def Least (W L : List Int) (o t : Int) : Prop := o ∈ L ∧ t ∈ L ∧ o ≠ t ∧ nle (key W o) (key W t) ∧ ∀ k ∈ L, k ≠ o → nle (key W t) (key W k)
def keep (o t : Int) : Int → Bool := fun k => (!decide (k = o)) && (!decide (k = t))
structure At3 (n i : Nat) (W L : List Int) (rest : List (Int × Int)) : Prop where
  wl : W.length = n + i
  ll : L.length + i = n
  nd : L.Nodup
  rg : ∀ k ∈ L, 0 ≤ k ∧ k < (W.length : Int)
  st : ∃ fr, (L.map (key W)).Perm fr ∧ Sorted fr ∧ rest = huff fr.length fr ((n : Int) + (i : Int))
theorem key_inj {W : List Int} {k j : Int} (h : key W k = key W j) : k = j := congrArg Prod.snd h
theorem nodup_key {W L : List Int} (h : L.Nodup) : (L.map (key W)).Nodup := by
  induction L with
  | nil => exact List.nodup_nil
  | cons k r ih =>
    obtain ⟨h1, h2⟩ := List.nodup_cons.mp h
    rw [List.map_cons]
    refine List.nodup_cons.mpr ⟨fun hm => ?_, ih h2⟩
    obtain ⟨j, hj, e⟩ := List.mem_map.mp hm
    exact h1 (by rw [← key_inj e]; exact hj)
theorem keep_perm {L : List Int} {o t : Int} (hn : L.Nodup) (ho : o ∈ L) (ht : t ∈ L) (hne : o ≠ t) : L.Perm (o :: t :: L.filter (keep o t)) := by
  have h1 := List.perm_cons_erase ho
  have h2 : t ∈ L.erase o := (List.mem_erase_of_ne (Ne.symm hne)).mpr ht
  have h3 := List.perm_cons_erase h2
  have e : (L.erase o).erase t = L.filter (keep o t) := by
    rw [List.Nodup.erase_eq_filter (List.Nodup.erase o hn), List.Nodup.erase_eq_filter hn, List.filter_filter]
    refine List.filter_congr fun k _ => ?_
    unfold keep
    by_cases e1 : k = o <;> by_cases e2 : k = t <;> simp [e1, e2]
  rw [e] at h3
  exact h1.trans (List.Perm.cons o h3)
theorem key_old {W : List Int} {k w : Int} (h0 : 0 ≤ k) (h : k < (W.length : Int)) : key (W ++ [w]) k = key W k := by
  unfold key
  rw [List.getD_eq_getElem?_getD, List.getD_eq_getElem?_getD, List.getElem?_append_left (by omega)]
theorem key_new {W : List Int} {w : Int} : key (W ++ [w]) (W.length : Int) = (w, (W.length : Int)) := by
  unfold key
  rw [List.getD_eq_getElem?_getD, Int.toNat_natCast, List.getElem?_append_right (Nat.le_refl _)]
  simp
theorem at3_start (ns : List Int) : At3 ns.length 0 ns ((List.range ns.length).map fun k : Nat => (k : Int)) (made ns) where
  wl := rfl
  ll := by simp
  nd := by
    refine List.pairwise_map.mpr (List.Pairwise.imp ?_ List.nodup_range)
    intro a b h e
    have e2 : (a : Int) = (b : Int) := e
    omega
  rg := fun k hk => by
    obtain ⟨j, hj, rfl⟩ := List.mem_map.mp hk
    have := List.mem_range.mp hj
    omega
  st := ⟨srt (nodes ns), by
    have e : ((List.range ns.length).map fun k : Nat => (k : Int)).map (key ns) = nodes ns := by
      refine List.ext_getElem? fun i => ?_
      rw [List.map_map, List.getElem?_map]
      by_cases hi : i < ns.length
      · rw [List.getElem?_range hi, nodes_at (List.getElem?_eq_getElem hi)]
        simp [key, List.getD_eq_getElem?_getD, List.getElem?_eq_getElem hi]
      · rw [List.getElem?_eq_none (by rw [List.length_range]; omega), List.getElem?_eq_none (by rw [nodes_len]; omega)]
        rfl
    rw [e]
    exact (srt_perm _).symm, srt_sorted _, by rw [made_eq]; simp⟩
theorem at3_step {n i : Nat} {W L : List Int} {o t : Int} {rest : List (Int × Int)} (h : At3 n i W L ((o, t) :: rest)) :
    Least W L o t ∧ At3 n (i + 1) (W ++ [W.getD o.toNat 0 + W.getD t.toNat 0]) (L.filter (keep o t) ++ [(W.length : Int)]) rest := by
  obtain ⟨wl, ll, nd, rg, fr, hp, hs, hr⟩ := h
  match fr, hp, hs, hr with
  | [], _, _, hr => rw [huff_end (by simp)] at hr; cases hr
  | [_], _, _, hr => rw [huff_end (by simp)] at hr; cases hr
  | a :: b :: r, hp, ⟨s1, s2, s3⟩, hr =>
    rw [huff_two] at hr
    injection hr with hr1 hr2
    injection hr1 with eo et
    obtain ⟨ko, hko, eko⟩ := List.mem_map.mp (hp.mem_iff.mpr (List.mem_cons_self))
    obtain ⟨kt, hkt, ekt⟩ := List.mem_map.mp (hp.mem_iff.mpr (List.mem_cons_of_mem a (List.mem_cons_self)))
    have e1 : ko = o := by rw [eo, ← eko]; rfl
    have e2 : kt = t := by rw [et, ← ekt]; rfl
    subst e1 e2
    have ndf : (a :: b :: r).Nodup := hp.nodup_iff.mp (nodup_key nd)
    have hne : ko ≠ kt := fun e => by
      rw [e, ekt] at eko
      exact (List.nodup_cons.mp ndf).1 (by rw [← eko]; exact List.mem_cons_self)
    refine ⟨⟨hko, hkt, hne, ?_, fun k hk hkn => ?_⟩, ?_⟩
    · rw [eko, ekt]
      exact s1 b List.mem_cons_self
    · rw [ekt]
      have hm := hp.mem_iff.mp (List.mem_map_of_mem (f := key W) hk)
      rcases List.mem_cons.mp hm with e | hm
      · exact absurd (key_inj (e.trans eko.symm)) hkn
      · rcases List.mem_cons.mp hm with e | hm
        · rw [e]
          rcases nle_tot b b with h | h <;> exact h
        · exact s2 _ hm
    · have kp := keep_perm nd hko hkt hne
      have kl := kp.length_eq
      rw [List.length_cons, List.length_cons] at kl
      refine ⟨by rw [List.length_append, wl]; simp; omega, by rw [List.length_append]; simp; omega, ?_, fun k hk => ?_, ins (a.1 + b.1, (n : Int) + (i : Int)) r, ?_, ins_sorted _ s3, ?_⟩
      · refine List.nodup_append.mpr ⟨List.Pairwise.filter _ nd, by simp, fun k hk j hj => ?_⟩
        have h1 := rg k (List.mem_filter.mp hk).1
        have h2 : j = (W.length : Int) := by simpa using hj
        omega
      · rw [List.length_append]
        rcases List.mem_append.mp hk with hk | hk
        · have h1 := rg k (List.mem_filter.mp hk).1
          simp
          omega
        · have h2 : k = (W.length : Int) := by simpa using hk
          simp
          omega
      · have pr : ((L.filter (keep ko kt)).map (key W)).Perm r := by
          have h1 := (kp.map (key W)).symm.trans hp
          rw [List.map_cons, List.map_cons, eko, ekt] at h1
          exact h1.cons_inv.cons_inv
        have em : (L.filter (keep ko kt)).map (key (W ++ [W.getD ko.toNat 0 + W.getD kt.toNat 0])) = (L.filter (keep ko kt)).map (key W) := by
          refine List.map_congr_left fun k hk => ?_
          have h1 := rg k (List.mem_filter.mp hk).1
          exact key_old h1.1 h1.2
        rw [List.map_append, em]
        show (_ ++ [key (W ++ [W.getD ko.toNat 0 + W.getD kt.toNat 0]) (W.length : Int)]).Perm _
        rw [key_new]
        have ea : W.getD ko.toNat 0 = a.1 := by rw [← eko]; rfl
        have eb : W.getD kt.toNat 0 = b.1 := by rw [← ekt]; rfl
        rw [ea, eb, wl]
        refine List.Perm.trans ?_ (ins_perm _ _).symm
        refine List.perm_append_comm.trans ?_
        show ((a.1 + b.1, ((n + i : Nat) : Int)) :: _).Perm _
        rw [show ((n + i : Nat) : Int) = (n : Int) + (i : Int) by omega]
        exact List.Perm.cons _ pr
      · rw [hr2]
        congr 1
end HF

set_option maxHeartbeats 4000000
/-! the codes: the mathematics -/
namespace HF
abbrev Wd := List (List Nat)
def wat (D : Wd) (k : Int) : List Nat := D.getD k.toNat []
/-- one pair's both, behind the pair's own way -/
def put (D : Wd) (b : Nat) (r : Int × Int) : Wd := (D.set r.1.toNat (wat D (b : Int) ++ [48])).set r.2.toNat (wat D (b : Int) ++ [49])
/-- from the last pair on; b: the first pair's number -/
def fill : Nat → List (Int × Int) → Wd → Wd
  | _, [], D => D
  | b, r :: rest, D => put (fill (b + 1) rest D) b r
theorem put_len (D : Wd) (b : Nat) (r : Int × Int) : (put D b r).length = D.length := by simp [put]
theorem fill_len : ∀ (rest : List (Int × Int)) (b : Nat) (D : Wd), (fill b rest D).length = D.length
  | [], _, _ => rfl
  | r :: rest, b, D => by
    show (put (fill (b + 1) rest D) b r).length = _
    rw [put_len, fill_len rest]
theorem wat_set {D : Wd} {i : Nat} {z : List Nat} {k : Int} (hk : 0 ≤ k) (hi : i < D.length) : wat (D.set i z) k = if k = (i : Int) then z else wat D k := by
  unfold wat
  rw [List.getD_eq_getElem?_getD, List.getD_eq_getElem?_getD, List.getElem?_set]
  by_cases e : i = k.toNat
  · have ek : k = (i : Int) := by omega
    rw [if_pos e, if_pos ek, if_pos hi]
    rfl
  · rw [if_neg e, if_neg (by omega)]
theorem put_at {D : Wd} {b : Nat} {o t k : Int} (ho : 0 ≤ o) (ho2 : o < (D.length : Int)) (ht : 0 ≤ t) (ht2 : t < (D.length : Int)) (hk : 0 ≤ k) :
    wat (put D b (o, t)) k = if k = t then wat D (b : Int) ++ [49] else if k = o then wat D (b : Int) ++ [48] else wat D k := by
  unfold put
  rw [wat_set hk (by rw [List.length_set]; show t.toNat < D.length; omega), wat_set hk (by show o.toNat < D.length; omega)]
  have e1 : ((t.toNat : Nat) : Int) = t := by omega
  have e2 : ((o.toNat : Nat) : Int) = o := by omega
  show (if k = ((t.toNat : Nat) : Int) then _ else if k = ((o.toNat : Nat) : Int) then _ else _) = _
  rw [e1, e2]
/-- where the pairs are gone through, with the newest node still there -/
def At4 (n i : Nat) (W L : List Int) (rest : List (Int × Int)) : Prop := At3 n i W L rest ∧ ((n + i : Nat) : Int) - 1 ∈ L
theorem at4_start {ns : List Int} (h : 1 ≤ ns.length) : At4 ns.length 0 ns ((List.range ns.length).map fun k : Nat => (k : Int)) (made ns) :=
  ⟨at3_start ns, List.mem_map.mpr ⟨ns.length - 1, List.mem_range.mpr (by omega), by omega⟩⟩
theorem at4_step {n i : Nat} {W L : List Int} {o t : Int} {rest : List (Int × Int)} (h : At4 n i W L ((o, t) :: rest)) :
    Least W L o t ∧ At4 n (i + 1) (W ++ [W.getD o.toNat 0 + W.getD t.toNat 0]) (L.filter (keep o t) ++ [((n + i : Nat) : Int)]) rest := by
  obtain ⟨h1, h2⟩ := at3_step h.1
  have e := h.1.wl
  rw [e] at h2
  exact ⟨h1, h2, List.mem_append_right _ (by simp; omega)⟩
theorem at4_end {n i : Nat} {W L : List Int} (h : At4 n i W L []) : L = [((n + i : Nat) : Int) - 1] ∧ i + 1 = n := by
  obtain ⟨⟨wl, ll, nd, rg, fr, hp, hs, hr⟩, hm⟩ := h
  have hl : fr.length ≤ 1 := by
    match fr, hr with
    | [], _ => simp
    | [_], _ => simp
    | a :: b :: r, hr =>
      rw [huff_two] at hr
      cases hr
  have hL : L.length ≤ 1 := by
    rw [← List.length_map (f := key W), hp.length_eq]
    exact hl
  match L, hm, hL, ll with
  | [x], hm, _, ll =>
    have : ((n + i : Nat) : Int) - 1 = x := by simpa using hm
    rw [this]
    exact ⟨rfl, by simp at ll; omega⟩
  | [], hm, _, _ => simp at hm
  | _ :: _ :: _, _, hL, _ => simp at hL
/-- how many pairs are left -/
theorem at4_rest {n : Nat} : ∀ {rest : List (Int × Int)} {i : Nat} {W L : List Int}, At4 n i W L rest → i + 1 + rest.length = n
  | [], i, W, L, h => by
    have := (at4_end h).2
    simp
    omega
  | (o, t) :: rest, i, W, L, h => by
    have := at4_rest (at4_step h).2
    rw [List.length_cons]
    omega
/-- the step, seen from the words -/
structure StepW (n i : Nat) (L : List Int) (o t : Int) (D D' : Wd) : Prop where
  o_in : o ∈ L
  t_in : t ∈ L
  ne : o ≠ t
  olt : 0 ≤ o ∧ o < ((n + i : Nat) : Int)
  tlt : 0 ≤ t ∧ t < ((n + i : Nat) : Int)
  wo : wat D' o = wat D ((n + i : Nat) : Int) ++ [48]
  wt : wat D' t = wat D ((n + i : Nat) : Int) ++ [49]
  wk : ∀ k, 0 ≤ k → k ≠ o → k ≠ t → wat D' k = wat D k
theorem step_w {n i : Nat} {W L : List Int} {o t : Int} {rest : List (Int × Int)} {D0 : Wd} (h : At4 n i W L ((o, t) :: rest)) (hD : D0.length = n + (n - 1)) :
    StepW n i L o t (fill (n + i + 1) rest D0) (fill (n + i) ((o, t) :: rest) D0) := by
  obtain ⟨⟨h1, h2, h3, h4, h5⟩, h6⟩ := at4_step h
  have r1 := h.1.rg o h1
  have r2 := h.1.rg t h2
  have wl := h.1.wl
  have hr := at4_rest h
  rw [List.length_cons] at hr
  rw [wl] at r1 r2
  have hl : (fill (n + i + 1) rest D0).length = n + (n - 1) := by rw [fill_len, hD]
  have pa : ∀ k, 0 ≤ k → wat (fill (n + i) ((o, t) :: rest) D0) k = if k = t then wat (fill (n + i + 1) rest D0) ((n + i : Nat) : Int) ++ [49] else if k = o then wat (fill (n + i + 1) rest D0) ((n + i : Nat) : Int) ++ [48] else wat (fill (n + i + 1) rest D0) k := fun k hk =>
    put_at r1.1 (by rw [hl]; omega) r2.1 (by rw [hl]; omega) hk
  refine ⟨h1, h2, h3, r1, r2, ?_, ?_, fun k hk k1 k2 => ?_⟩
  · rw [pa o r1.1, if_neg h3, if_pos rfl]
  · rw [pa t r2.1, if_pos rfl]
  · rw [pa k hk, if_neg k2, if_neg k1]

/-! the way from the top -/
def nxt (rows : List (Int × Int)) (n : Nat) (node : Int) (b : Nat) : Int := if b = 48 then (rows.getD (node - n).toNat (0, 0)).1 else (rows.getD (node - n).toNat (0, 0)).2
def walkF (rows : List (Int × Int)) (n : Nat) : Int → List Nat → Int
  | node, [] => node
  | node, b :: w => if node < (n : Int) ∨ (b ≠ 48 ∧ b ≠ 49) then -1 else if nxt rows n node b < 0 ∨ (n : Int) + rows.length ≤ nxt rows n node b then -1 else walkF rows n (nxt rows n node b) w
theorem walk_cons (rows : List (Int × Int)) (n : Nat) (node : Int) (b : Nat) (w : List Nat) : walkF rows n node (b :: w) =
    if node < (n : Int) ∨ (b ≠ 48 ∧ b ≠ 49) then -1 else if nxt rows n node b < 0 ∨ (n : Int) + rows.length ≤ nxt rows n node b then -1 else walkF rows n (nxt rows n node b) w := rfl
theorem walk_nil (rows : List (Int × Int)) (n : Nat) (node : Int) : walkF rows n node [] = node := rfl
theorem walk_neg (rows : List (Int × Int)) (n : Nat) : ∀ w, walkF rows n (-1) w = -1
  | [] => rfl
  | b :: w => by rw [walk_cons, if_pos (Or.inl (by omega))]
theorem walk_app (rows : List (Int × Int)) (n : Nat) : ∀ (w v : List Nat) (node : Int), walkF rows n node (w ++ v) = walkF rows n (walkF rows n node w) v
  | [], v, node => rfl
  | b :: w, v, node => by
    rw [List.cons_append, walk_cons, walk_cons]
    by_cases h1 : node < (n : Int) ∨ (b ≠ 48 ∧ b ≠ 49)
    · rw [if_pos h1, if_pos h1]
      exact (walk_neg rows n v).symm
    · rw [if_neg h1, if_neg h1]
      by_cases h2 : nxt rows n node b < 0 ∨ (n : Int) + rows.length ≤ nxt rows n node b
      · rw [if_pos h2, if_pos h2]
        exact (walk_neg rows n v).symm
      · rw [if_neg h2, if_neg h2]
        exact walk_app rows n w v _
/-- every node there is, and every pair made from here on, is reached by its word -/
theorem fill_walk {n : Nat} {rows : List (Int × Int)} {D0 : Wd} (hD : D0.length = n + (n - 1)) (h0 : ∀ z ∈ D0, z = []) : ∀ {rest : List (Int × Int)} {i : Nat} {W L : List Int}, At4 n i W L rest → rows.drop i = rest → rows.length + 1 = n →
    ∀ k, k ∈ L ∨ (((n + i : Nat) : Int) ≤ k ∧ k < (n : Int) + rows.length) → walkF rows n ((n : Int) + rows.length - 1) (wat (fill (n + i) rest D0) k) = k
  | [], i, W, L, h, hr, hn, k, hk => by
    obtain ⟨eL, ei⟩ := at4_end h
    have hk2 : k = (n : Int) + rows.length - 1 := by
      rw [eL] at hk
      rcases hk with hk | hk
      · have : k = ((n + i : Nat) : Int) - 1 := by simpa using hk
        omega
      · omega
    have e : wat D0 k = [] := by
      unfold wat
      rw [List.getD_eq_getElem?_getD]
      cases hz : D0[k.toNat]? with
      | none => rfl
      | some z => exact h0 z (List.mem_of_getElem? hz)
    show walkF rows n _ (wat D0 k) = k
    rw [e, hk2]
    rfl
  | (o, t) :: rest, i, W, L, h, hr, hn, k, hk => by
    have S := step_w h hD
    obtain ⟨_, h6⟩ := at4_step h
    have hil : i < rows.length := by
      have := at4_rest h
      rw [List.length_cons] at this
      omega
    have hdrop : rows.drop (i + 1) = rest := by
      rw [List.drop_eq_getElem_cons hil] at hr
      injection hr
    have hrow : rows[i] = (o, t) := by
      rw [List.drop_eq_getElem_cons hil] at hr
      injection hr
    have ih := fun k hk => fill_walk hD h0 h6 hdrop hn k hk
    have ihp := ih ((n + i : Nat) : Int) (Or.inl (List.mem_append_right _ (by simp)))
    rw [show n + (i + 1) = n + i + 1 by omega] at ih ihp
    have gd : rows.getD (((n + i : Nat) : Int) - (n : Int)).toNat (0, 0) = (o, t) := by
      rw [show (((n + i : Nat) : Int) - (n : Int)).toNat = i by omega, List.getD_eq_getElem?_getD, List.getElem?_eq_getElem hil, hrow]
      rfl
    have o1 := S.olt
    have t1 := S.tlt
    by_cases e1 : k = o
    · subst e1
      have en : nxt rows n ((n + i : Nat) : Int) 48 = k := by
        unfold nxt
        rw [gd, if_pos rfl]
      rw [S.wo, walk_app, ihp, walk_cons, if_neg (by omega), en, if_neg (by omega), walk_nil]
    · by_cases e2 : k = t
      · subst e2
        have en : nxt rows n ((n + i : Nat) : Int) 49 = k := by
          unfold nxt
          rw [gd, if_neg (show ¬ (49 : Nat) = 48 by decide)]
        rw [S.wt, walk_app, ihp, walk_cons, if_neg (by omega), en, if_neg (by omega), walk_nil]
      · have hk0 : 0 ≤ k := by
          rcases hk with hk | hk
          · exact (h.1.rg k hk).1
          · omega
        rw [S.wk k hk0 e1 e2]
        refine ih k ?_
        rcases hk with hk | hk
        · refine Or.inl (List.mem_append_left _ (List.mem_filter.mpr ⟨hk, ?_⟩))
          unfold keep
          simp [e1, e2]
        · by_cases e3 : k = ((n + i : Nat) : Int)
          · exact Or.inl (List.mem_append_right _ (by simp [e3]))
          · exact Or.inr ⟨by omega, hk.2⟩
/-- the codes of the signs -/
def wordsAll (ns : List Int) : Wd := fill ns.length (made ns) (List.replicate (ns.length + (ns.length - 1)) [])
def codes (ns : List Int) : Wd := (wordsAll ns).take ns.length
theorem wordsAll_len (ns : List Int) : (wordsAll ns).length = ns.length + (ns.length - 1) := by
  unfold wordsAll
  rw [fill_len, List.length_replicate]
theorem codes_len (ns : List Int) : (codes ns).length = ns.length := by
  unfold codes
  rw [List.length_take, wordsAll_len]
  omega
theorem code_at {ns : List Int} {k : Nat} (h : k < ns.length) : (codes ns)[k]? = some (wat (wordsAll ns) (k : Int)) := by
  unfold codes wat
  rw [List.getElem?_take, if_pos h, Int.toNat_natCast, List.getD_eq_getElem?_getD, List.getElem?_eq_getElem (by rw [wordsAll_len]; omega)]
  rfl
theorem code_walk {ns : List Int} (h1 : 1 ≤ ns.length) {k : Nat} {w : List Nat} (hw : (codes ns)[k]? = some w) : walkF (made ns) ns.length ((ns.length : Int) + (made ns).length - 1) w = (k : Int) := by
  have hk : k < ns.length := by
    have := (List.getElem?_eq_some_iff.mp hw).1
    rwa [codes_len] at this
  rw [code_at hk] at hw
  cases hw
  have hl := made_len ns
  exact fill_walk (rows := made ns) (by rw [List.length_replicate]) (fun z hz => (List.mem_replicate.mp hz).2) (at4_start h1) rfl (by omega) (k : Int) (Or.inl (List.mem_map.mpr ⟨k, List.mem_range.mpr hk, rfl⟩))
/-- no code begins another one -/
theorem code_apart {ns : List Int} (h1 : 1 ≤ ns.length) {k j : Nat} {w v : List Nat} (hw : (codes ns)[k]? = some w) (hv : (codes ns)[j]? = some (w ++ v)) : k = j := by
  have a := code_walk h1 hw
  have b := code_walk h1 hv
  rw [walk_app, a] at b
  have hk : k < ns.length := by
    have := (List.getElem?_eq_some_iff.mp hw).1
    rwa [codes_len] at this
  cases v with
  | nil =>
    have : (k : Int) = (j : Int) := b
    omega
  | cons c r =>
    rw [walk_cons, if_pos (Or.inl (by omega))] at b
    omega
/-- all words are bits -/
theorem fill_bits {n : Nat} {D0 : Wd} (hD : D0.length = n + (n - 1)) (h0 : ∀ z ∈ D0, z = []) : ∀ {rest : List (Int × Int)} {i : Nat} {W L : List Int}, At4 n i W L rest → ∀ k, 0 ≤ k → (∀ b ∈ wat (fill (n + i) rest D0) k, b = 48 ∨ b = 49) ∧ (wat (fill (n + i) rest D0) k).length ≤ rest.length
  | [], i, W, L, h, k, hk => by
    have e : wat D0 k = [] := by
      unfold wat
      rw [List.getD_eq_getElem?_getD]
      cases hz : D0[k.toNat]? with
      | none => rfl
      | some z => exact h0 z (List.mem_of_getElem? hz)
    show (∀ b ∈ wat D0 k, _) ∧ (wat D0 k).length ≤ 0
    rw [e]
    exact ⟨fun b hb => absurd hb List.not_mem_nil, Nat.le_refl _⟩
  | (o, t) :: rest, i, W, L, h, k, hk => by
    have S := step_w h hD
    obtain ⟨_, h6⟩ := at4_step h
    have ih := fun k hk => fill_bits hD h0 h6 k hk
    rw [show n + (i + 1) = n + i + 1 by omega] at ih
    obtain ⟨i1, i2⟩ := ih ((n + i : Nat) : Int) (by omega)
    by_cases e1 : k = o
    · subst e1
      rw [S.wo]
      refine ⟨fun b hb => ?_, by rw [List.length_append, List.length_cons]; simpa using i2⟩
      rcases List.mem_append.mp hb with hb | hb
      · exact i1 b hb
      · exact Or.inl (by simpa using hb)
    · by_cases e2 : k = t
      · subst e2
        rw [S.wt]
        refine ⟨fun b hb => ?_, by rw [List.length_append, List.length_cons]; simpa using i2⟩
        rcases List.mem_append.mp hb with hb | hb
        · exact i1 b hb
        · exact Or.inr (by simpa using hb)
      · rw [S.wk k hk e1 e2]
        obtain ⟨j1, j2⟩ := ih k hk
        exact ⟨j1, by rw [List.length_cons]; omega⟩
theorem code_bits {ns : List Int} (h1 : 1 ≤ ns.length) {k : Nat} {w : List Nat} (hw : (codes ns)[k]? = some w) : (∀ b ∈ w, b = 48 ∨ b = 49) ∧ w.length + 1 ≤ ns.length := by
  have hk : k < ns.length := by
    have := (List.getElem?_eq_some_iff.mp hw).1
    rwa [codes_len] at this
  rw [code_at hk] at hw
  cases hw
  have hl := made_len ns
  obtain ⟨a, b⟩ := fill_bits (n := ns.length) (D0 := List.replicate (ns.length + (ns.length - 1)) []) (by rw [List.length_replicate]) (fun z hz => (List.mem_replicate.mp hz).2) (at4_start h1) (k : Int) (by omega)
  exact ⟨a, by unfold wordsAll; rw [Nat.add_zero] at b; omega⟩
/-- both of a pair are numbers of ahead -/
theorem made_rng {n : Nat} : ∀ {rest : List (Int × Int)} {i : Nat} {W L : List Int}, At4 n i W L rest → ∀ (j : Nat) (r : Int × Int), rest[j]? = some r → 0 ≤ r.1 ∧ r.1 < ((n + i + j : Nat) : Int) ∧ 0 ≤ r.2 ∧ r.2 < ((n + i + j : Nat) : Int)
  | [], i, W, L, h, j, r, hr => by simp at hr
  | (o, t) :: rest, i, W, L, h, j, r, hr => by
    obtain ⟨⟨h1, h2, _⟩, h6⟩ := at4_step h
    have r1 := h.1.rg o h1
    have r2 := h.1.rg t h2
    rw [h.1.wl] at r1 r2
    cases j with
    | zero =>
      cases hr
      exact ⟨r1.1, r1.2, r2.1, r2.2⟩
    | succ j =>
      have := made_rng h6 j r (by simpa using hr)
      rw [show n + (i + 1) + j = n + i + (j + 1) by omega] at this
      exact this
theorem made_row {ns : List Int} (h1 : 1 ≤ ns.length) {j : Nat} {r : Int × Int} (hr : (made ns)[j]? = some r) : 0 ≤ r.1 ∧ r.1 < ((ns.length + j : Nat) : Int) ∧ 0 ≤ r.2 ∧ r.2 < ((ns.length + j : Nat) : Int) :=
  made_rng (at4_start h1) j r hr
end HF
namespace HF
theorem at4_drop' {n : Nat} : ∀ {rest : List (Int × Int)} {i : Nat} {W L : List Int}, At4 n i W L rest → ∀ j, j ≤ rest.length → ∃ W' L', At4 n (i + j) W' L' (rest.drop j)
  | rest, i, W, L, h, 0, _ => ⟨W, L, h⟩
  | [], i, W, L, h, j + 1, hj => by simp at hj
  | (o, t) :: rest, i, W, L, h, j + 1, hj => by
    have := at4_drop' (at4_step h).2 j (by simpa using hj)
    rw [show i + 1 + j = i + (j + 1) by omega] at this
    exact this
theorem at4_drop {ns : List Int} (h : 1 ≤ ns.length) {j : Nat} (hj : j ≤ (made ns).length) : ∃ W L, At4 ns.length j W L ((made ns).drop j) := by
  have := at4_drop' (at4_start h) j hj
  rwa [Nat.zero_add] at this
end HF

set_option maxHeartbeats 4000000
namespace SP
open PySem L2 Evl
/-- words as values -/
def wv (D : HF.Wd) : List V := D.map fun w => V.str (tx w)
theorem wv_len (D : HF.Wd) : (wv D).length = D.length := by simp [wv]
theorem wv_at {D : HF.Wd} {k : Int} (h0 : 0 ≤ k) (h : k < (D.length : Int)) : atI (wv D) k = some (.str (tx (HF.wat D k))) := by
  have e : k = ((k.toNat : Nat) : Int) := by omega
  have hlt : k.toNat < D.length := by omega
  rw [e]
  refine atI_nat ?_
  unfold wv HF.wat
  rw [List.getElem?_map, List.getD_eq_getElem?_getD, show ((k.toNat : Nat) : Int).toNat = k.toNat by omega, List.getElem?_eq_getElem hlt]
  rfl
theorem wv_set (D : HF.Wd) (i : Nat) (w : List Nat) : (wv D).set i (.str (tx w)) = wv (D.set i w) := by
  unfold wv
  rw [List.map_set]
theorem wv_rep (n : Nat) : (List.replicate n [V.str (tx [])]).flatten = wv (List.replicate n []) := by
  unfold wv
  induction n with
  | zero => rfl
  | succ n ih =>
    rw [List.replicate_succ, List.flatten_cons, ih, List.replicate_succ, List.map_cons]
    rfl
theorem wv_get {D : HF.Wd} {k : Nat} {x : V} (h : (wv D)[k]? = some x) : ∃ w, x = V.str (tx w) ∧ D[k]? = some w := by
  unfold wv at h
  rw [List.getElem?_map] at h
  cases hz : D[k]? with
  | none => rw [hz] at h; cases h
  | some w => rw [hz] at h; exact ⟨w, (Option.some.inj h).symm, rfl⟩
theorem cut_to (xs : List V) (n : Nat) : cutV xs none (some (n : Int)) = xs.take n := by
  unfold cutV
  rw [HT.sIx_none, HT.sIx_nat, List.drop_zero, Nat.sub_zero]
  by_cases h : n ≤ xs.length
  · rw [Nat.min_eq_left h]
  · rw [Nat.min_eq_right (by omega), List.take_of_length_le (Nat.le_refl _), List.take_of_length_le (by omega)]
theorem cut_from (xs : List V) (n : Nat) : cutV xs (some (n : Int)) none = xs.drop n := by
  unfold cutV
  rw [HT.sIx_none, HT.sIx_nat]
  by_cases h : n ≤ xs.length
  · rw [Nat.min_eq_left h, List.take_of_length_le (by rw [List.length_drop]; omega)]
  · rw [Nat.min_eq_right (by omega), List.drop_of_length_le (Nat.le_refl _), List.drop_of_length_le (show xs.length ≤ n by omega)]
    simp
section
variable {K : PySem.W.Frag} {σ : L2.St} {H H' : Hp} {ta tb te : TE} {D : Ends} {tz tu : TS}
/-- [..] * k -/
theorem el_rep {xs : List V} {k : Int} (ha : EvL ta σ H xs) (hb : Ev tb σ H (.int k)) (h1 : 0 ≤ k) (h2 : k < 2 ^ 62) (hz : xs.length * k.toNat ≤ sizeLine) : EvL (tOp rRep ta tb) σ H (List.replicate k.toNat xs).flatten := fun H1 e Q q =>
  ha H1 e _ fun p H2 hp e2 h => hb H2 (e.trans e2) _ fun H3 e3 => ⟨p, k, xs, rfl, rfl, e3 _ _ h, by omega, by omega, hz, fun r hr => q r _ (fresh_back (e2.trans e3) hr) ((e2.trans e3).trans (Ex.new hr)) upd_same⟩
/-- [''] * n -/
theorem el_repE {n : Nat} (ha : EvL ta σ H [V.str (tx [])]) (hb : Ev tb σ H (.int (n : Int))) (hn : n ≤ 100000) : EvL (tOp rRep ta tb) σ H (wv (List.replicate n [])) := by
  have h := el_rep (k := (n : Int)) ha hb (by omega) (by omega) (by simp; exact sz_of (by omega))
  rw [Int.toNat_natCast, wv_rep] at h
  exact h
/-- xs[:n] -/
theorem el_to {K : PySem.W.Frag} {tl : TE} {a : Addr} {xs : List V} {n : Nat} (h : Ev te σ H (.ref a)) (hn : Ev tl σ H (.int (n : Int))) (hs : SqL K H a xs) : EvL (tSl (rSlL K) te tNoPart (tPart tl)) σ H (xs.take n) := by
  have h := el_sl h eo_none (eo_some hn) hs
  rw [cut_to] at h
  exact h
/-- xs[n:] -/
theorem el_from {K : PySem.W.Frag} {tl : TE} {a : Addr} {xs : List V} {n : Nat} (h : Ev te σ H (.ref a)) (hn : Ev tl σ H (.int (n : Int))) (hs : SqL K H a xs) : EvL (tSl (rSlL K) te (tPart tl) tNoPart) σ H (xs.drop n) := by
  have h := el_sl h (eo_some hn) eo_none hs
  rw [cut_from] at h
  exact h
/-- text[:n] -/
theorem cutS_to (l : List Nat) (n : Nat) : cutS (tx l) none (some (n : Int)) = tx (l.take n) := by
  unfold cutS
  rw [HT.sIx_none, HT.sIx_nat, tx_cps, tx_len, List.drop_zero, Nat.sub_zero]
  by_cases h : n ≤ l.length
  · rw [Nat.min_eq_left h]
    rfl
  · rw [Nat.min_eq_right (by omega), List.take_of_length_le (Nat.le_refl _), List.take_of_length_le (by omega)]
    rfl
theorem ev_toS {tl : TE} {l : List Nat} {n : Nat} (h : Ev te σ H (.str (tx l))) (hn : Ev tl σ H (.int (n : Int))) (hz : l.length ≤ 100000) : Ev (tSl rSlS te tNoPart (tPart tl)) σ H (.str (tx (l.take n))) := fun H1 e Q q =>
  h H1 e _ fun H2 e2 => hn H2 (e.trans e2) _ fun H3 e3 => ⟨(n : Int), rfl, tx l, rfl, by rw [tx_len]; exact sz_of hz, by
    rw [cutS_to]
    exact q H3 (e2.trans e3)⟩
/-- max of a new list -/
theorem ev_maxN {K : PySem.W.Frag} {ns : List Int} {m : Int} (h : EvL te σ H (ns.map V.int)) (hm : m ∈ ns) (hle : ∀ y ∈ ns, y ≤ m) : Ev (tCB (rMax K) (tCons te tNil)) σ H (.int m) := fun H1 e Q q =>
  h H1 e _ fun p H2 _ e2 h2 => ⟨p, ns, rfl, sq_of h2, List.length_pos_of_mem hm, fun m' h1 h3 => by
    have : m' = m := by
      have a := hle m' h1
      have b := h3 m hm
      omega
    rw [this]
    exact q H2 e2⟩
/-- for i in reversed(range(n)) -/
theorem q_forRev {j : Nat} {n : Nat} (h : Ev ta σ H (.int (n : Int))) (hn : n ≤ 100000) (Pv : Nat → L2.St → Hp → Prop) (h0 : ∀ H1, Ex H H1 → Pv 0 σ H1)
    (hs : ∀ (i : Nat) σ' H', i < n → Pv i σ' H' → tu { D with nx := Pv (i + 1), ct := Pv (i + 1), bk := tz D } (σ'.set j (some (.int ((n - 1 - i : Nat) : Int)))) H') (hd : ∀ σ' H', Pv n σ' H' → tz D σ' H') : tSeq (tFor (iRevR (tRg1 ta)) (gName j) tu) tz D σ H :=
  h H (Ex.refl H) _ fun H1 e => ⟨(n : Int), rfl, by omega, by omega, by omega, by omega, by
    have en : ((n : Int) - 0).toNat = n := by omega
    rw [en]
    exact for_it walk_rangeC Pv (h0 H1 e) (fun _ _ _ _ _ => True.intro) (fun i v σ' H' H2 hi p y => by
      obtain ⟨rfl, rfl⟩ := y
      have e2 : (0 : Int) + ((n : Nat) : Int) - 1 + ((i : Nat) : Int) * (-1) = ((n - 1 - i : Nat) : Int) := by omega
      show tu _ (σ'.set j (some (.int ((0 : Int) + ((n : Nat) : Int) - 1 + ((i : Nat) : Int) * (-1))))) H2
      rw [e2]
      exact hs i σ' H2 hi p) hd⟩
/-- a, b = rows[k] -/
theorem q_row {l : Addr} {ts : List Addr} {rows : List (Int × Int)} {i j : Nat} {k : Nat} {r : Int × Int} (ho : Ev ta σ H (.ref l)) (hi : Ev tb σ H (.int (k : Int))) (hl : SqL K H l (ts.map V.ref)) (hR : Rws H ts rows) (hr : rows[k]? = some r)
    (c : ∀ H1, Ex H H1 → tz D ((σ.set i (some (.int r.1))).set j (some (.int r.2))) H1) : tSeq (tAsg (tOp (rIxL K) ta tb) (gTup K 2 (gCons (gName i) (gCons (gName j) gNil)))) tz D σ H := by
  have hk : k < ts.length := by
    rw [hR.1]
    exact (List.getElem?_eq_some_iff.mp hr).1
  have ht : ts[k]? = some ts[k] := List.getElem?_eq_getElem hk
  have hat : atI (ts.map V.ref) (k : Int) = some (.ref ts[k]) := atI_nat (by rw [List.getElem?_map, ht]; rfl)
  refine ho H (Ex.refl H) _ fun H1 e1 => hi H1 e1 _ fun H2 e2 => ⟨l, _, (k : Int), _, rfl, rfl, ex_l (e1.trans e2) hl, hat, ?_⟩
  exact ⟨ts[k], [.int r.1, .int r.2], rfl, st_of ((e1.trans e2) _ _ (hR.2 k _ r ht hr)), rfl, _, [_], rfl, _, [], rfl, rfl, c H2 (e1.trans e2)⟩
/-- for a, b in rows -/
theorem q_forRows {l : Addr} {ts : List Addr} {rows : List (Int × Int)} {i j : Nat} {K : PySem.W.Frag} (h : Ev te σ H (.ref l)) (hl : H l = some (.lst (ts.map V.ref))) (hR : Rws H ts rows) (Pv : Nat → L2.St → Hp → Prop) (h0 : ∀ H1, Ex H H1 → Pv 0 σ H1)
    (hq : ∀ i σ' H', Pv i σ' H' → H' l = some (.lst (ts.map V.ref)) ∧ Rws H' ts rows)
    (hs : ∀ (n : Nat) (r : Int × Int) (σ' : L2.St) (H' : Hp), rows[n]? = some r → Pv n σ' H' → tu { D with nx := Pv (n + 1), ct := Pv (n + 1), bk := tz D } ((σ'.set i (some (.int r.1))).set j (some (.int r.2))) H') (hd : ∀ σ' H', Pv rows.length σ' H' → tz D σ' H') :
    tSeq (tFor (iList K te) (gTup K 2 (gCons (gName i) (gCons (gName j) gNil))) tu) tz D σ H := by
  have el : (ts.map V.ref).length = rows.length := by rw [List.length_map, hR.1]
  refine q_forL h (sq_of hl) Pv h0 (fun k σ' H' _ p => sq_of (hq k σ' H' p).1) (fun k x σ' H' hx p => ?_) (by rw [el]; exact hd)
  rw [List.getElem?_map] at hx
  cases ht : ts[k]? with
  | none => rw [ht] at hx; cases hx
  | some t =>
    rw [ht] at hx
    cases hx
    have hk : k < rows.length := by
      rw [← hR.1]
      exact (List.getElem?_eq_some_iff.mp ht).1
    have hr : rows[k]? = some rows[k] := List.getElem?_eq_getElem hk
    exact ⟨t, [.int rows[k].1, .int rows[k].2], rfl, st_of ((hq k σ' H' p).2.2 k t _ ht hr), rfl, _, [_], rfl, _, [], rfl, rfl, hs k _ σ' H' hr p⟩
end
end SP

set_option maxHeartbeats 4000000
namespace SP
open PySem L2 Evl
/-! pairs of ints compared -/
def gt2 (p q : Int × Int) : Bool := decide (q.1 < p.1 ∨ (q.1 = p.1 ∧ q.2 < p.2))
theorem lexLt2 (a b c d : Int) : HT.lexLt [a, b] [c, d] = decide (a < c ∨ (a = c ∧ b < d)) := by
  rw [HT.lexLt_cons, HT.lexLt_cons, HT.lexLt_nil_nil]
  by_cases h1 : a = c
  · rw [if_pos h1]
    by_cases h2 : b = d
    · rw [if_pos h2, decide_eq_false]
      omega
    · rw [if_neg h2]
      exact decide_eq_decide.mpr (by omega)
  · rw [if_neg h1]
    exact decide_eq_decide.mpr (by omega)
def rGt2 (K : PySem.W.Frag) : R2 := fun x y H Q => ∃ (a b : Addr) (p q : Int × Int), x = .ref a ∧ y = .ref b ∧ SqT K H a [.int p.1, .int p.2] ∧ SqT K H b [.int q.1, .int q.2] ∧ Q (.bl (gt2 p q)) H
theorem ints2 {p : Int × Int} {its : List Value} (r : Vals [.int p.1, .int p.2] its) : ∃ t u, its = [.int p.1 t, .int p.2 u] := by
  cases r with
  | cons r1 r2 =>
    cases r2 with
    | cons r2 r3 =>
      cases r3
      obtain ⟨t, rfl⟩ := r1
      obtain ⟨u, rfl⟩ := r2
      exact ⟨t, u, rfl⟩
theorem op_gtT {X : Cx} (hu : X.A.units < cLine) : OpR X (compareOp .Gt) (rGt2 X.K) := by
  intro pn st sg Hh x y v u Q J rx ry h
  obtain ⟨a, b, p, q, rfl, rfl, ha, hb, k⟩ := h
  cases rx
  cases ry
  obtain ⟨its, r1, p1, _⟩ := J.tuple ha
  obtain ⟨its2, r2, p2, _⟩ := J.tuple hb
  obtain ⟨t1, u1, rfl⟩ := ints2 r1
  obtain ⟨t2, u2, rfl⟩ := ints2 r2
  have two : ∀ j, j < 2 → j = 0 ∨ j = 1 := fun j h => by omega
  have beqd : ∀ m n : Int, (m == n) = decide (m = n) := fun m n => by
    by_cases z : m = n
    · rw [decide_eq_true z]
      exact beq_iff_eq.mpr z
    · rw [decide_eq_false z]
      exact beq_eq_false_iff_ne.mpr z
  have R := Ob.RcOp.tuples_gt (A := X.A) (s := st) (e := fun j => if j = 0 then decide (p.1 = q.1) else decide (p.2 = q.2)) (r := fun j => if j = 0 then decide (q.1 < p.1) else decide (q.2 < p.2)) p1 p2 hu (fun j h1 h2 => by
      rcases two j h1 with rfl | rfl
      · show SeqAt.EqAt _ _ (.int p.1 t1) (.int q.1 t2) (decide (p.1 = q.1))
        rw [← beqd]
        exact SeqAt.EqAt.int_int _ _ _ _
      · show SeqAt.EqAt _ _ (.int p.2 u1) (.int q.2 u2) (decide (p.2 = q.2))
        rw [← beqd]
        exact SeqAt.EqAt.int_int _ _ _ _) (fun j h1 h2 _ => by
      rcases two j h1 with rfl | rfl
      · exact Ob.RcOp.gt_int p.1 q.1 t1 t2
      · exact Ob.RcOp.gt_int p.2 q.2 u1 u2)
  refine R X.prog X.w X.xe (EP X pn sg Q) ⟨.bl _, Hh, J, rfl, ?_⟩
  have e : Ob.lexAt (fun j => if j = 0 then decide (p.1 = q.1) else decide (p.2 = q.2)) (fun j => if j = 0 then decide (q.1 < p.1) else decide (q.2 < p.2)) (decide (#[Value.int p.1 t1, Value.int p.2 u1].size > #[Value.int q.1 t2, Value.int q.2 u2].size)) 0 (min #[Value.int p.1 t1, Value.int p.2 u1].size #[Value.int q.1 t2, Value.int q.2 u2].size) = gt2 p q := by
    show (if decide (p.1 = q.1) = true then (if decide (p.2 = q.2) = true then decide (2 > 2) else decide (q.2 < p.2)) else decide (q.1 < p.1)) = gt2 p q
    unfold gt2
    by_cases h1 : p.1 = q.1
    · rw [decide_eq_true h1, if_pos rfl]
      by_cases h2 : p.2 = q.2
      · rw [decide_eq_true h2, if_pos rfl]
        exact decide_eq_decide.mpr (by omega)
      · rw [decide_eq_false h2, if_neg Bool.false_ne_true]
        exact decide_eq_decide.mpr (by omega)
    · rw [decide_eq_false h1, if_neg Bool.false_ne_true]
      exact decide_eq_decide.mpr (by omega)
  show Q (.bl (Ob.lexAt _ _ (decide (#[Value.int p.1 t1, Value.int p.2 u1].size > #[Value.int q.1 t2, Value.int q.2 u2].size)) 0 (min #[Value.int p.1 t1, Value.int p.2 u1].size #[Value.int q.1 t2, Value.int q.2 u2].size))) Hh
  rw [e]
  exact k
section
variable {K : PySem.W.Frag} {σ : L2.St} {H H' : Hp} {ta tb te : TE} {t : TT}
theorem ev_gt2 {p q : Int × Int} (ha : EvU ta σ H [.int p.1, .int p.2]) (hb : EvU tb σ H [.int q.1, .int q.2]) : Ev (tOp (rGt2 K) ta tb) σ H (.bl (gt2 p q)) :=
  ev_opUU ha hb fun a b H1 h1 h2 _ H2 e _ k => ⟨a, b, p, q, rfl, rfl, st_of (e _ _ h1), st_of (e _ _ h2), k H2 (Ex.refl _)⟩
theorem ev_lt2 {p q : Int × Int} (ha : EvU ta σ H [.int p.1, .int p.2]) (hb : EvU tb σ H [.int q.1, .int q.2]) : Ev (tOp (rLtT K) ta tb) σ H (.bl (gt2 q p)) :=
  ev_opUU ha hb fun a b H1 h1 h2 _ H2 e _ k => ⟨a, b, [p.1, p.2], [q.1, q.2], rfl, rfl, st_of (e _ _ h1), st_of (e _ _ h2), by
    rw [lexLt2]
    exact k H2 (Ex.refl _)⟩
/-- x in, not in a list of ints -/
theorem inV_int {ks : List Int} {k : Int} : inV (.int k) (ks.map V.int) = decide (k ∈ ks) := by
  unfold inV
  rw [List.any_map, Bool.eq_iff_iff, List.any_eq_true, decide_eq_true_eq]
  constructor
  · rintro ⟨x, hx, he⟩
    have : x = k := eq_of_beq (show (x == k) = true from he)
    rw [← this]
    exact hx
  · intro h
    exact ⟨k, h, show (k == k) = true by simp⟩
theorem flat_ints {ks : List Int} : (ks.map V.int).all flatV = true := by
  rw [List.all_map, List.all_eq_true]
  intro x _
  rfl
theorem rv_notInI {p : Addr} {ks : List Int} {k : Int} (h : SqL K H p (ks.map V.int)) : RV (rIn K true) (.int k) (.ref p) H (.bl (!decide (k ∈ ks))) := by
  have := rv_niL (K := K) (x := .int k) h rfl flat_ints
  rw [inV_int] at this
  exact this
/-- [x for x in xs if test], ints -/
theorem el_filtI {a : Addr} {ks : List Int} {tl : TE} {j : Nat} {vs : List Nat} (f : Int → Bool) (h : Ev tl σ H (.ref a)) (hx : SqL K H a (ks.map V.int)) (hz : ks.length ≤ 40000) (hw : ∀ x, wipe ((wipe σ vs).set j (some x)) vs = wipe σ vs)
    (ht : ∀ (x : Int) H1, Ex H H1 → x ∈ ks → EvT t ((wipe σ vs).set j (some (.int x))) H1 (f x)) (he : ∀ (x : Int) H1, Ex H H1 → Ev te ((wipe σ vs).set j (some (.int x))) H1 (.int x)) : EvL (tLc (iList K tl) (gName j) t te vs) σ H ((ks.filter f).map V.int) := fun H0 e Q q => h H0 e _ fun H1 e1 => ⟨a, rfl, ⟨_, ex_l (e.trans e1) hx⟩, fun Dl hD =>
  lc_list (xs := ks.map V.int) (fun i H' => H1 Dl = none ∧ Ex H1 H' ∧ H' Dl = some (.lst (((ks.take i).filter f).map V.int))) ⟨hD, Ex.new hD, upd_same⟩ (fun i H' _ p => ex_l ((e.trans e1).trans p.2.1) hx) (fun i x H' hi p => by
    obtain ⟨z, rfl, hz2⟩ := int_at hi
    obtain ⟨p1, p2, p3⟩ := p
    have e01 := e.trans e1
    refine ⟨hw _, ht z H1 e01 (List.mem_of_getElem? hz2) H' p2 _ fun H3 e3 => ?_⟩
    have tk : ks.take (i + 1) = ks.take i ++ [z] := by rw [List.take_add_one, hz2]; rfl
    cases hf : f z with
    | true =>
      rw [if_pos rfl]
      refine he z H1 e01 H3 (p2.trans e3) _ fun H4 e4 => ⟨_, e4 _ _ (e3 _ _ p3), sz_lt ?_, p1, Ex.mut ((p2.trans e3).trans e4) p1, ?_⟩
      · rw [List.length_map]
        have h1 := List.length_filter_le f (ks.take i)
        rw [List.length_take] at h1
        omega
      · rw [upd_same, tk, List.filter_append, List.map_append, List.filter_cons, if_pos hf]
        rfl
    | false =>
      rw [if_neg Bool.false_ne_true]
      refine ⟨p1, p2.trans e3, ?_⟩
      rw [tk, List.filter_append, List.filter_cons, if_neg (by rw [hf]; exact Bool.false_ne_true)]
      show H3 Dl = some (.lst ((((ks.take i).filter f) ++ []).map V.int))
      rw [List.append_nil]
      exact e3 _ _ p3) (fun H' p => by
    have p3 := p.2.2
    rw [List.take_of_length_le (by rw [List.length_map]; exact Nat.le_refl _)] at p3
    exact q Dl H' (fresh_back e1 p.1) (e1.trans p.2.1) p3)⟩
end
end SP

set_option maxHeartbeats 4000000
namespace SP
open PySem L2 Evl
/-! objects that change: all but these stands -/
def ExS (ms : List Addr) (H H' : Hp) : Prop := ∀ a o, a ∉ ms → H a = some o → H' a = some o
section
variable {ms ms' : List Addr} {H H0 H1 H2 H' : Hp} {l p : Addr} {o : HO}
theorem ExS.of (e : Ex H H') : ExS ms H H' := fun a o _ h => e a o h
theorem ExS.refl : ExS ms H H := fun _ _ _ h => h
theorem ExS.trans (a : ExS ms H H1) (b : ExS ms H1 H2) : ExS ms H H2 := fun x o n h => b x o n (a x o n h)
theorem ExS.mono (e : ExS ms H H') (h : ∀ a ∈ ms, a ∈ ms') : ExS ms' H H' := fun a o n x => e a o (fun z => n (h a z)) x
theorem ExS.upd (e : ExS ms H H') (h : l ∈ ms) : ExS ms H (upd H' l o) := fun a u n x => by
  rw [upd_ne (fun z => n (by rw [z]; exact h))]
  exact e a u n x
theorem ExS.ex (e : ExS ms H H1) (h0 : Ex H0 H) (hf : ∀ a ∈ ms, H0 a = none) : Ex H0 H1 := fun a o x =>
  e a o (fun z => by rw [hf a z] at x; cases x) (h0 a o x)
theorem ExS.at (e : ExS ms H H') (x : H l = some o) (n : l ∉ ms) : H' l = some o := e l o n x
/-- a place that is free behind was free before, but for the changed -/
theorem ExS.back (e : ExS ms H H') (h : H' p = none) (n : p ∉ ms) : H p = none := by
  cases h1 : H p with
  | none => rfl
  | some o =>
    rw [e p o n h1] at h
    cases h
theorem ExS.nil (e : ExS [] H H') : Ex H H' := fun a o h => e a o (by simp) h
end
/-! classes by their names -/
def cadr (mg : Str → Option Value) (x : Str) : Addr := match mg x with
  | some (.ref a) => a
  | _ => 0
theorem cadr_of {mg : Str → Option Value} {x : Str} {a : Addr} (h : mg x = some (.ref a)) : cadr mg x = a := by
  unfold cadr
  rw [h]
structure Met (P : Program) (w : World) (K : PySem.W.Frag) (mg : Str → Option Value) (base : Heap) (c m : Str) (ps : List Str) (k : Nat) (sp : Sp) : Prop where
  ex : ∃ f fd, Cls K (cadr mg c) ∧ Meth K (cadr mg c) m f ∧ FnOk P w K mg base CX0 k f fd ps sp ∧ Binds K fd ps []
structure Mkr (P : Program) (w : World) (K : PySem.W.Frag) (mg : Str → Option Value) (base : Heap) (c : Str) (ps : List Str) (k : Nat) (sp : Sp) : Prop where
  ex : ∃ f fd, Mk K (cadr mg c) f ∧ FnOk P w K mg base CX0 k f fd ps sp ∧ mg c = some (.ref (cadr mg c)) ∧ Binds K fd ps []
section
variable {X : Cx} {x c m : Str} {ps : List Str} {k k' : Nat} {sp : Sp} {p pos apos : Pos} {e o : Expr} {es : List Expr} {t : TA} {ta : TE}
theorem pe_met {pl : Sem Bool} (C : Met X.prog X.w X.K X.mg X.base c m ps k sp) (hr : Room k' X.A) (hk : k ≤ k') (he : PE X o ta) (ha : PA X (e :: es) t)
    (hst : starEach (e :: es) X.env = (false, eval e X.env) :: starEach es X.env := by rfl) (hpl : (backTo pos (starEach es X.env)).any (·.1) = false := by rfl)
    (ht : eval (.Call (.Attribute o m apos) (e :: es) [] pos) X.env = (do
      let ov ← eval o X.env
      standAt apos.atName
      let (f, first) ← holding [ov] (getMethod ov m pl)
      callWith pos f first (backTo pos (starEach (e :: es) X.env)) (backToKw pos (keywordEach [] X.env))) := by rfl) :
    PE X (.Call (.Attribute o m apos) (e :: es) [] pos) (tMeth (cadr X.mg c) m sp [] E0 ta t) := by
  obtain ⟨f, fd, hc, hm, F, b⟩ := C.ex
  exact pe_meth (pl := pl) he hc hm F (hr.mono hk) b .nil pass0 ha hst hpl ht
theorem pe_met0 {pl : Sem Bool} (C : Met X.prog X.w X.K X.mg X.base c m ps k sp) (hr : Room k' X.A) (hk : k ≤ k') (he : PE X o ta)
    (ht : eval (.Call (.Attribute o m apos) [] [] pos) X.env = (do
      let ov ← eval o X.env
      standAt apos.atName
      let (f, first) ← holding [ov] (getMethod ov m pl)
      callWith pos f first (backTo pos (starEach [] X.env)) (backToKw pos (keywordEach [] X.env))) := by rfl) :
    PE X (.Call (.Attribute o m apos) [] [] pos) (tMeth (cadr X.mg c) m sp [] E0 ta tNil) := by
  obtain ⟨f, fd, hc, hm, F, b⟩ := C.ex
  exact pe_meth0 (pl := pl) he hc hm F (hr.mono hk) b .nil pass0 ht
theorem pe_mkr (C : Mkr X.prog X.w X.K X.mg X.base x ps k sp) (hr : Room k' X.A) (hk : k + 1 ≤ k') (hg : Gl X x) (ha : PA X (e :: es) t)
    (hdb : (x == ("__debug__" : Str)) = false := by decide) (he : starEach (e :: es) X.env = (false, eval e X.env) :: starEach es X.env := by rfl) (hpl : (backTo pos (starEach es X.env)).any (·.1) = false := by rfl) :
    PE X (.Call (.Name x p) (e :: es) [] pos) (tMake (cadr X.mg x) sp [] E0 t) := by
  obtain ⟨f, fd, M, F, hm, b⟩ := C.ex
  exact pe_make M F (hr.mono hk) hg hm b .nil pass0 ha hdb he hpl
end
/-! list(a text) -/
def sv (l : List Nat) : List V := l.map fun c => V.str (tx [c])
theorem sv_len (l : List Nat) : (sv l).length = l.length := by simp [sv]
theorem sv_flat (l : List Nat) : (sv l).all flatV = true := by
  unfold sv
  rw [List.all_map, List.all_eq_true]
  intro x _
  rfl
theorem tx1_eq {c d : Nat} : (tx [c] = tx [d]) ↔ c = d := ⟨fun h => by have := tx_inj h; simpa using this, fun h => by rw [h]⟩
theorem inV_sv {l : List Nat} {c : Nat} : inV (.str (tx [c])) (sv l) = decide (c ∈ l) := by
  unfold inV sv
  rw [List.any_map, Bool.eq_iff_iff, List.any_eq_true, decide_eq_true_eq]
  constructor
  · rintro ⟨x, hx, he⟩
    have h1 : tx [x] = tx [c] := eq_of_beq (show (tx [x] == tx [c]) = true from he)
    rw [← tx1_eq.mp h1]
    exact hx
  · intro h
    exact ⟨c, h, show (tx [c] == tx [c]) = true by simp⟩
def rListZ : List V → Hp → VK → Prop := fun xs H Q => ∃ l : List Nat, xs = [.str (tx l)] ∧ l.length ≤ 100000 ∧ ∀ q, H q = none → Q (.ref q) (upd H q (.lst (sv l)))
theorem call_listZ {X : Cx} (hc : X.calm = true) : CallR X (.type "list") rListZ := by
  intro pins s σ H xs us Q I r h
  obtain ⟨l, rfl, hl, q⟩ := h
  obtain ⟨u, rfl, rx⟩ := vals1 r
  obtain ⟨t, rfl⟩ := rx
  have hsz : (tx l).cps.size = l.length := by simp [tx]
  refine PySem.call_list_str (I.ok.hd hc) (tx l) t (fun h' tk acc c' hk e hi => ?_) (by rw [hsz]; exact sz_of hl)
  refine ⟨.ref s.heap.objs.size, upd H s.heap.objs.size (.lst (sv l)), I.laid hk (Nat.le_refl _) ⟨by rw [sv_len]; exact sz_of hl, acc.toList, c', ?_, by rw [Array.toArray_toList]; exact e⟩, rfl, q _ (I.hok.fresh (Nat.le_refl _))⟩
  refine vals_of_idx _ _ (by rw [sv_len, Array.length_toList, ← hsz]; exact hi.1) fun j u hj => ?_
  obtain ⟨c, t', hc, rfl⟩ := hi.2 j u (by rw [← Array.getElem?_toList]; exact hj)
  have hc' : l[j]? = some c := by
    rw [← hc]
    simp [tx]
  exact ⟨.str (tx [c]), by unfold sv; rw [List.getElem?_map, hc']; rfl, ⟨_, rfl⟩⟩
/-! fields -/
theorem lk_eq {f : Str} {v : V} {r : List (Str × V)} : List.lookup f ((f, v) :: r) = some v := by simp [List.lookup]
theorem lk_ne {f g : Str} {v : V} {r : List (Str × V)} (h : (f == g) = false) : List.lookup f ((g, v) :: r) = List.lookup f r := by simp only [List.lookup, h]
theorem lk_nil {f : Str} : List.lookup f ([] : List (Str × V)) = none := rfl
theorem pf_nil {f : Str} {v : V} : putF f v [] = [(f, v)] := rfl
theorem pf_eq {f : Str} {v x : V} {r : List (Str × V)} : putF f v ((f, x) :: r) = (f, v) :: r := by
  show (if f = f then (f, v) :: r else _) = _
  rw [if_pos rfl]
theorem pf_ne {f g : Str} {v x : V} {r : List (Str × V)} (h : (g == f) = false) : putF f v ((g, x) :: r) = (g, x) :: putF f v r := by
  show (if g = f then _ else _) = _
  rw [if_neg (beq_eq_false_iff_ne.mp h)]
section
variable {K : PySem.W.Frag} {σ : L2.St} {H H' : Hp} {ta tb te tv : TE} {t : TA} {x y z v : V} {D : Ends} {tz : TS} {p C dx : Addr} {fs : List (Str × V)} {f m : Str}
theorem ev_fld (ho : Ev ta σ H (.ref p)) (hp : H p = some (.ins C dx fs)) (c : Cls K C) (n : NoAttr K C f) (hl : fs.lookup f = some v) : Ev (tFld K ta f) σ H v := fun H1 e Q q =>
  ho H1 e _ fun H2 e2 => ⟨p, C, dx, fs, v, rfl, e2 _ _ (e _ _ hp), c, n, hl, q H2 e2⟩
theorem s_fld (hv : Ev tv σ H v) (ho : Ev ta σ H (.ref p)) (hp : H p = some (.ins C dx fs)) (c : Cls K C) (n : NoAttr K C f) (hl : fs.length < 1000) (k : ∀ H1, Ex H H1 → D.nx σ (upd H1 p (.ins C dx (putF f v fs)))) : sFld K ta tv f D σ H :=
  hv H (Ex.refl H) _ fun H1 e1 => ho H1 e1 _ fun H2 e2 => ⟨p, C, dx, fs, rfl, e2 _ _ (e1 _ _ hp), c, n, hl, k H2 (e1.trans e2)⟩
theorem q_fld (hv : Ev tv σ H v) (ho : Ev ta σ H (.ref p)) (hp : H p = some (.ins C dx fs)) (c : Cls K C) (n : NoAttr K C f) (hl : fs.length < 1000) (k : ∀ H1, Ex H H1 → tz D σ (upd H1 p (.ins C dx (putF f v fs)))) : tSeq (sFld K ta tv f) tz D σ H :=
  s_fld (D := { D with nx := tz D }) hv ho hp c n hl k
theorem s_fldL {xs : List V} (hv : EvL tv σ H xs) (ho : Ev ta σ H (.ref p)) (hp : H p = some (.ins C dx fs)) (c : Cls K C) (n : NoAttr K C f) (hl : fs.length < 1000) (k : ∀ l H1, H l = none → Ex H H1 → H1 l = some (.lst xs) → l ≠ p → D.nx σ (upd H1 p (.ins C dx (putF f (.ref l) fs)))) : sFld K ta tv f D σ H :=
  hv H (Ex.refl H) _ fun l H1 hl1 e1 h1 => ho H1 e1 _ fun H2 e2 => ⟨p, C, dx, fs, rfl, e2 _ _ (e1 _ _ hp), c, n, hl, k l H2 hl1 (e1.trans e2) (e2 _ _ h1) fun z => by rw [z, hp] at hl1; cases hl1⟩
theorem q_fldL {xs : List V} (hv : EvL tv σ H xs) (ho : Ev ta σ H (.ref p)) (hp : H p = some (.ins C dx fs)) (c : Cls K C) (n : NoAttr K C f) (hl : fs.length < 1000) (k : ∀ l H1, H l = none → Ex H H1 → H1 l = some (.lst xs) → l ≠ p → tz D σ (upd H1 p (.ins C dx (putF f (.ref l) fs)))) : tSeq (sFld K ta tv f) tz D σ H :=
  s_fldL (D := { D with nx := tz D }) hv ho hp c n hl k
/-- o.f += a text -/
theorem s_faugS {a b : List Nat} (ho : Ev ta σ H (.ref p)) (hp : H p = some (.ins C dx fs)) (c : Cls K C) (n : NoAttr K C f) (hf : fs.lookup f = some (.str (tx a))) (hv : Ev tv σ H (.str (tx b))) (hz : a.length + b.length ≤ 100000) (hl : fs.length < 1000)
    (k : ∀ H1, Ex H H1 → D.nx σ (upd H1 p (.ins C dx (putF f (.str (tx (a ++ b))) fs)))) : sFldAug K ta tv rAddS f D σ H :=
  ho H (Ex.refl H) _ fun H1 e1 => ⟨p, C, dx, fs, _, rfl, e1 _ _ hp, c, n, hf, hv H1 e1 _ fun H2 e2 => ⟨tx a, tx b, rfl, rfl, by rw [tx_len, tx_len]; exact sz_of hz, dx, fs, (e1.trans e2) _ _ hp, hl, by
    rw [tx_app]
    exact k H2 (e1.trans e2)⟩⟩
theorem q_faugS {a b : List Nat} (ho : Ev ta σ H (.ref p)) (hp : H p = some (.ins C dx fs)) (c : Cls K C) (n : NoAttr K C f) (hf : fs.lookup f = some (.str (tx a))) (hv : Ev tv σ H (.str (tx b))) (hz : a.length + b.length ≤ 100000) (hl : fs.length < 1000)
    (k : ∀ H1, Ex H H1 → tz D σ (upd H1 p (.ins C dx (putF f (.str (tx (a ++ b))) fs)))) : tSeq (sFldAug K ta tv rAddS f) tz D σ H :=
  s_faugS (D := { D with nx := tz D }) ho hp c n hf hv hz hl k
/-- o.f -= an int -/
theorem s_faugI {a b : Int} (ho : Ev ta σ H (.ref p)) (hp : H p = some (.ins C dx fs)) (c : Cls K C) (n : NoAttr K C f) (hf : fs.lookup f = some (.int a)) (hv : Ev tv σ H (.int b)) (hl : fs.length < 1000)
    (k : ∀ H1, Ex H H1 → D.nx σ (upd H1 p (.ins C dx (putF f (.int (a - b)) fs)))) : sFldAug K ta tv rSub f D σ H :=
  ho H (Ex.refl H) _ fun H1 e1 => ⟨p, C, dx, fs, _, rfl, e1 _ _ hp, c, n, hf, hv H1 e1 _ fun H2 e2 => ⟨a, b, rfl, rfl, dx, fs, (e1.trans e2) _ _ hp, hl, k H2 (e1.trans e2)⟩⟩
theorem q_faugI {a b : Int} (ho : Ev ta σ H (.ref p)) (hp : H p = some (.ins C dx fs)) (c : Cls K C) (n : NoAttr K C f) (hf : fs.lookup f = some (.int a)) (hv : Ev tv σ H (.int b)) (hl : fs.length < 1000)
    (k : ∀ H1, Ex H H1 → tz D σ (upd H1 p (.ins C dx (putF f (.int (a - b)) fs)))) : tSeq (sFldAug K ta tv rSub f) tz D σ H :=
  s_faugI (D := { D with nx := tz D }) ho hp c n hf hv hl k
/-- a method's call: its promise at the heap as it stands then -/
theorem er_met {sp : Sp} {vs : List V} {E : XK} {Q : VK} (ho : Ev ta σ H (.ref p)) (hp : H p = some (.ins C dx fs)) (hm : fs.lookup m = none) (ha : EvA t σ H vs) (k : ∀ H1, Ex H H1 → sp (.ref p :: vs) H1 Q E) : tMeth C m sp [] E ta t σ H Q :=
  ho H (Ex.refl H) _ fun H1 e1 => ⟨p, dx, fs, rfl, e1 _ _ hp, hm, ha H1 e1 _ fun H2 e2 => by
    rw [List.append_nil]
    exact k H2 (e1.trans e2)⟩
/-- a new instance: its __init__'s promise -/
theorem er_mkr {sp : Sp} {vs : List V} {E : XK} {Q : VK} (ha : EvA t σ H vs)
    (k : ∀ H1 x dx, Ex H H1 → H1 x = none → H1 dx = none → dx ≠ x → sp (.ref x :: vs) (upd (upd H1 dx (.own x)) x (.ins C dx [])) (fun v H2 => v = .non ∧ Q (.ref x) H2) E) : tMake C sp [] E t σ H Q :=
  ha H (Ex.refl H) _ fun H1 e1 => fun x dx hx hd hn => by
    rw [List.append_nil]
    exact k H1 x dx e1 hx hd hn
/-- what stood ahead of the making -/
theorem ex_made {H1 H2 : Hp} {x dx C : Addr} (hx : H1 x = none) (hd : H1 dx = none) (e : ExS [x] (upd (upd H1 dx (.own x)) x (.ins C dx [])) H2) : Ex H1 H2 := fun a o h => by
  have n1 : a ≠ x := ne_of_none h hx
  have n2 : a ≠ dx := ne_of_none h hd
  refine e a o (by simpa using n1) ?_
  rw [upd_ne n1, upd_ne n2]
  exact h
/-- list(a text) -/
theorem el_listZ {l : List Nat} (ha : Ev ta σ H (.str (tx l))) (hl : l.length ≤ 100000) : EvL (tCB rListZ (tCons ta tNil)) σ H (sv l) := fun H1 e Q q =>
  ha H1 e _ fun H2 e2 => ⟨l, rfl, hl, fun r hr => q r _ (fresh_back e2 hr) (e2.trans (Ex.new hr)) upd_same⟩
/-- a sign in, not in a list of signs that is new -/
theorem ev_niZ {l : List Nat} {c : Nat} (ha : Ev ta σ H (.str (tx [c]))) (hb : EvL tb σ H (sv l)) : Ev (tOp (rIn K true) ta tb) σ H (.bl (!decide (c ∈ l))) :=
  ev_opL ha hb fun p H1 h1 _ => by
    have := rv_niL (K := K) (x := .str (tx [c])) (sq_of h1) rfl (sv_flat l)
    rw [inV_sv] at this
    exact this
/-- a <= b <= c by any relations -/
theorem ev_chainR {r r' : R2} {tc : TE} {a b : Bool} (ha : Ev ta σ H x) (hb : Ev tb σ H y) (h1 : RV r x y H (.bl a)) (hc : a = true → Ev tc σ H z) (h2 : a = true → RV r' y z H (.bl b)) : Ev (tChain r r' ta tb tc) σ H (.bl (a && b)) := fun H1 e Q q =>
  ha H1 e _ fun H2 e2 => hb H2 (e.trans e2) _ fun H3 e3 => h1 H3 ((e.trans e2).trans e3) _ fun H4 e4 => ⟨a, rfl, by
    have e24 := (e2.trans e3).trans e4
    cases a with
    | true =>
      show tc σ H4 _
      exact hc rfl H4 (e.trans e24) _ fun H5 e5 => h2 rfl H5 ((e.trans e24).trans e5) _ fun H6 e6 => q H6 ((e24.trans e5).trans e6)
    | false =>
      show Q (.bl false) H4
      exact q H4 e24⟩
end
end SP
namespace SP
open PySem L2 Evl
theorem strB32 : PySem.Str.ofString " " = tx [32] := by decide +kernel
theorem strB126 : PySem.Str.ofString "~" = tx [126] := by decide +kernel
theorem count_le1 {l : List Nat} (h : l.Nodup) {c : Nat} : l.count c ≤ 1 := by
  induction l with
  | nil => simp
  | cons a r ih =>
    have h1 := List.nodup_cons.mp h
    rw [List.count_cons]
    by_cases e : a = c
    · rw [if_pos (by rw [e]; simp), List.count_eq_zero_of_not_mem (by rw [← e]; exact h1.1)]
      omega
    · rw [if_neg (by simpa using e)]
      have := ih h1.2
      omega
section
variable {K : PySem.W.Frag} {σ : L2.St} {H H' : Hp} {ta tb te : TE}
theorem lt_one {a b : Nat} : ([b] : List Nat) < [a] ↔ b < a := by
  rw [List.cons_lt_cons_iff]
  constructor
  · rintro (h | ⟨_, h⟩)
    · exact h
    · exact absurd h (List.not_lt_nil _)
  · intro h
    exact Or.inl h
theorem rv_leS {a b : Nat} : RV (fun x y H Q => ∃ i j, x = .str i ∧ y = .str j ∧ Q (.bl (!decide (j.cps.toList < i.cps.toList))) H) (.str (tx [a])) (.str (tx [b])) H (.bl (decide (a ≤ b))) := fun H1 _ Q q =>
  ⟨tx [a], tx [b], rfl, rfl, by
    have e : (!decide ((tx [b]).cps.toList < (tx [a]).cps.toList)) = decide (a ≤ b) := by
      rw [tx_cps, tx_cps]
      by_cases h : a ≤ b
      · rw [decide_eq_true h, decide_eq_false (fun z => by have := lt_one.mp z; omega)]
        rfl
      · rw [decide_eq_false h, decide_eq_true (lt_one.mpr (by omega))]
        rfl
    rw [e]
    exact q H1 (Ex.refl _)⟩
/-- [1] * n -/
theorem el_repI {n : Nat} {k : Int} (ha : EvL ta σ H [V.int k]) (hb : Ev tb σ H (.int (n : Int))) (hn : n ≤ 100000) : EvL (tOp rRep ta tb) σ H ((List.replicate n k).map V.int) := by
  have h := el_rep (k := (n : Int)) ha hb (by omega) (by omega) (by simp; exact sz_of (by omega))
  have e : (List.replicate (n : Int).toNat [V.int k]).flatten = (List.replicate n k).map V.int := by
    rw [Int.toNat_natCast]
    induction n with
    | zero => rfl
    | succ m ih =>
      rw [List.replicate_succ, List.flatten_cons, List.replicate_succ, List.map_cons]
      have : (List.replicate m [V.int k]).flatten = (List.replicate m k).map V.int := by
        clear ih h hb ha hn
        induction m with
        | zero => rfl
        | succ m ih =>
          rw [List.replicate_succ, List.flatten_cons, ih, List.replicate_succ, List.map_cons]
          rfl
      rw [this]
      rfl
  rw [e] at h
  exact h
end
end SP
namespace SP
open PySem L2 Evl
section
variable {K : PySem.W.Frag} {σ : L2.St} {H H' : Hp} {ta tb tc td te : TE} {x y z w : V} {D : Ends} {tz : TS} {t : TA}
theorem el_cal3L {sp : Sp} {E : XK} {xs ys : List V} (ha : Ev ta σ H x) (hb : EvL tb σ H ys) (hc : Ev tc σ H z) (hs : ∀ r H1, Ex H H1 → H1 r = some (.lst ys) → SpL sp [x, .ref r, z] H1 xs) : EvL (tCall sp [] E (tCons ta (tCons tb (tCons tc tNil)))) σ H xs := fun H1 e Q q =>
  ha H1 e _ fun H2 e2 => hb H2 (e.trans e2) _ fun r H3 _ e3 h3 => hc H3 ((e.trans e2).trans e3) _ fun H4 e4 => hs r H4 (((e.trans e2).trans e3).trans e4) (e4 _ _ h3) H4 (Ex.refl H4) Q (fun p H5 hp e5 h5 => q p H5 (fresh_back ((e2.trans e3).trans e4) hp) (((e2.trans e3).trans e4).trans e5) h5) E
theorem ev_cal4L3 {sp : Sp} {E : XK} {v : V} {xs : List V} (ha : Ev ta σ H x) (hb : Ev tb σ H y) (hc : EvL tc σ H xs) (hd : Ev td σ H w) (hs : ∀ r H1, Ex H H1 → H1 r = some (.lst xs) → SpV sp [x, y, .ref r, w] H1 v) : Ev (tCall sp [] E (tCons ta (tCons tb (tCons tc (tCons td tNil))))) σ H v := fun H1 e Q q =>
  ha H1 e _ fun H2 e2 => hb H2 (e.trans e2) _ fun H3 e3 => hc H3 ((e.trans e2).trans e3) _ fun r H4 _ e4 h4 => hd H4 (((e.trans e2).trans e3).trans e4) _ fun H5 e5 => hs r H5 ((((e.trans e2).trans e3).trans e4).trans e5) (e5 _ _ h4) H5 (Ex.refl H5) Q (fun H6 e6 => q H6 ((((e2.trans e3).trans e4).trans e5).trans e6)) E
/-- a, b, c = a new tuple of three -/
theorem q_asg3 {i j k : Nat} (h : EvU te σ H [x, y, z]) (kk : ∀ H1, Ex H H1 → tz D (((σ.set i (some x)).set j (some y)).set k (some z)) H1) : tSeq (tAsg te (gTup K 3 (gCons (gName i) (gCons (gName j) (gCons (gName k) gNil))))) tz D σ H :=
  h H (Ex.refl H) _ fun p H1 _ e1 h1 => ⟨p, [x, y, z], rfl, st_of h1, rfl, x, [y, z], rfl, y, [z], rfl, z, [], rfl, rfl, kk H1 e1⟩
theorem q_asg2 {i j : Nat} (h : EvU te σ H [x, y]) (kk : ∀ H1, Ex H H1 → tz D ((σ.set i (some x)).set j (some y)) H1) : tSeq (tAsg te (gTup K 2 (gCons (gName i) (gCons (gName j) gNil)))) tz D σ H :=
  h H (Ex.refl H) _ fun p H1 _ e1 h1 => ⟨p, [x, y], rfl, st_of h1, rfl, x, [y], rfl, y, [], rfl, rfl, kk H1 e1⟩
theorem q_make {C : Addr} {sp : Sp} {vs : List V} {E : XK} {i : Nat} (ha : EvA t σ H vs)
    (k : ∀ H1 x dx, Ex H H1 → H1 x = none → H1 dx = none → dx ≠ x → sp (.ref x :: vs) (upd (upd H1 dx (.own x)) x (.ins C dx [])) (fun v H2 => v = .non ∧ tz D (σ.set i (some (.ref x))) H2) E) : tSeq (tAsg (tMake C sp [] E t) (gName i)) tz D σ H :=
  er_mkr (Q := fun v H2 => gName i v σ H2 (tz D)) ha k
/-- the script, an object or two changed -/
theorem sq_S {ms : List Addr} {a : Addr} {xs : List V} (e : ExS ms H H') (hi : ∀ b ∈ ms, ∃ C dx fs, H b = some (.ins C dx fs)) (h : SqL K H a xs) : SqL K H' a xs := by
  have na : ∀ o, H a = some o → (∀ C dx fs, o ≠ .ins C dx fs) → a ∉ ms := fun o ho hn hm => by
    obtain ⟨C, dx, fs, h1⟩ := hi a hm
    rw [ho] at h1
    exact hn _ _ _ (Option.some.inj h1)
  rcases h with (h | ⟨o, h⟩) | h
  · exact .inl (.inl (e _ _ (na _ h fun _ _ _ z => nomatch z) h))
  · exact .inl (.inr ⟨o, e _ _ (na _ h fun _ _ _ z => nomatch z) h⟩)
  · exact .inr h
end
end SP

set_option maxHeartbeats 4000000
namespace SP
open PySem L2 Evl
/-! shares, counts, how they are learnt; the laws' signs: the mathematics -/
def Shares (ns : List Int) : Prop := 1 ≤ ns.length ∧ ns.length ≤ 40 ∧ ∀ n ∈ ns, 1 ≤ n ∧ n ≤ 1000000000000
def Counts (cs : List Int) (n : Nat) : Prop := cs.length = n ∧ ∀ c ∈ cs, 0 ≤ c ∧ c ≤ 1000000000000
def half (x : Int) : Int := x - x / 2
/-- halved as long as the sum is above the cap -/
inductive Halved (cap : Int) : List Int → List Int → Prop where
  | stop {xs} : xs.sum ≤ cap → Halved cap xs xs
  | step {xs ys} : cap < xs.sum → Halved cap (xs.map half) ys → Halved cap xs ys
theorem half_pos {x : Int} (h : 1 ≤ x) : 1 ≤ half x ∧ half x ≤ x := by
  unfold half
  omega
theorem sum_half : ∀ {xs : List Int}, (∀ x ∈ xs, 1 ≤ x) → (xs.map half).sum ≤ xs.sum ∧ ((xs.length : Int) < xs.sum → (xs.map half).sum < xs.sum)
  | [], _ => ⟨Int.le_refl _, fun h => by simp at h⟩
  | x :: r, h => by
    have h1 := h x List.mem_cons_self
    obtain ⟨i1, i2⟩ := sum_half (xs := r) fun y hy => h y (List.mem_cons_of_mem _ hy)
    have h2 := half_pos h1
    rw [List.map_cons, List.sum_cons, List.sum_cons, List.length_cons]
    refine ⟨by omega, fun hl => ?_⟩
    by_cases hx : x = 1
    · have : (r.length : Int) < r.sum := by omega
      have := i2 this
      omega
    · have : half x < x := by
        unfold half
        omega
      omega
theorem sum_ge : ∀ {xs : List Int}, (∀ x ∈ xs, 1 ≤ x) → (xs.length : Int) ≤ xs.sum
  | [], _ => by simp
  | x :: r, h => by
    have h1 := h x List.mem_cons_self
    have := sum_ge (xs := r) fun y hy => h y (List.mem_cons_of_mem _ hy)
    rw [List.sum_cons, List.length_cons]
    omega
theorem halves {cap : Int} : ∀ (m : Nat) (xs : List Int), xs.sum.toNat ≤ m → (∀ x ∈ xs, 1 ≤ x) → (xs.length : Int) ≤ cap → ∃ ys, Halved cap xs ys
  | 0, xs, hm, h, hc => ⟨xs, .stop (by have := sum_ge h; omega)⟩
  | m + 1, xs, hm, h, hc => by
    by_cases hs : cap < xs.sum
    · have := (sum_half h).2 (by omega)
      obtain ⟨ys, hy⟩ := halves m (xs.map half) (by omega) (fun x hx => by
        obtain ⟨y, hy, rfl⟩ := List.mem_map.mp hx
        exact (half_pos (h y hy)).1) (by rw [List.length_map]; exact hc)
      exact ⟨ys, .step hs hy⟩
    · exact ⟨xs, .stop (by omega)⟩
theorem halved_len {cap : Int} {xs ys : List Int} (h : Halved cap xs ys) : ys.length = xs.length := by
  induction h with
  | stop _ => rfl
  | step _ _ ih => rw [ih, List.length_map]
/-- the loop while sum(xs) > cap: xs = [x - x // 2 for x in xs], from slot 3, behind which nothing is kept but the list's address -/
def WH (cap : Int) (ys : List Int) (n : Nat) (H : Hp) (m : Nat) (p : Addr) (H' : Hp) : Prop := ∃ xs : List Int, Ex H H' ∧ H' p = some (.lst (xs.map V.int)) ∧ H p = none ∧ Halved cap xs ys ∧ (∀ x ∈ xs, 1 ≤ x) ∧ xs.length = n ∧ (n : Int) ≤ cap ∧ n ≤ 40 ∧ m = xs.sum.toNat
def sumZ (xs ys : List Int) : List Int := List.zipWith (· + ·) xs ys
theorem sumZ_at {xs ys : List Int} {i : Nat} {x y : Int} (h1 : xs[i]? = some x) (h2 : ys[i]? = some y) : (sumZ xs ys)[i]? = some (x + y) := by
  unfold sumZ
  rw [List.getElem?_zipWith, h1, h2]
theorem sumZ_len {xs ys : List Int} (h : ys.length = xs.length) : (sumZ xs ys).length = xs.length := by
  unfold sumZ
  rw [List.length_zipWith, h, Nat.min_self]
theorem sumZ_pos : ∀ {xs ys : List Int}, (∀ x ∈ xs, 1 ≤ x) → (∀ y ∈ ys, 0 ≤ y) → ∀ z ∈ sumZ xs ys, 1 ≤ z
  | [], _, _, _, z, hz => by simp [sumZ] at hz
  | _ :: _, [], _, _, z, hz => by simp [sumZ] at hz
  | x :: xs, y :: ys, h1, h2, z, hz => by
    have a1 := h1 x List.mem_cons_self
    have a2 := h2 y List.mem_cons_self
    rcases List.mem_cons.mp (show z ∈ (x + y) :: sumZ xs ys from hz) with e | hz
    · omega
    · exact sumZ_pos (fun v hv => h1 v (List.mem_cons_of_mem _ hv)) (fun v hv => h2 v (List.mem_cons_of_mem _ hv)) z hz
def countsOf (ss bs : List Nat) : List Int := ss.map fun c => ((bs.count c : Nat) : Int)
def all94 : List Nat := (List.range 5).map (· + 32) ++ (List.range 89).map (· + 38)
theorem all94_len : all94.length = 94 := by decide
def signsOf (c : Int) (m : Nat) : List Nat := (List.range m).map fun k : Nat => all94.getD ((c + (k : Int) * (1 + 2 * (c / 94 % 23))) % 94).toNat 0
theorem signsOf_len (c : Int) (m : Nat) : (signsOf c m).length = m := by simp [signsOf]
theorem signs_at {c : Int} {m i : Nat} {y : V} (h : ((signsOf c m).map fun d => V.str (tx [d]))[i]? = some y) : y = V.str (tx [all94.getD ((c + (i : Int) * (1 + 2 * (c / 94 % 23))) % 94).toNat 0]) := by
  unfold signsOf at h
  rw [List.map_map, List.getElem?_map] at h
  cases hz : (List.range m)[i]? with
  | none => rw [hz] at h; cases h
  | some z =>
    rw [hz] at h
    obtain ⟨h1, h2⟩ := List.getElem?_eq_some_iff.mp hz
    rw [List.getElem_range] at h2
    subst h2
    exact (Option.some.inj h).symm
theorem some94 : (PySem.Str.ofString " !\"#$&'()*+,-./0123456789:;<=>?@ABCDEFGHIJKLMNOPQRSTUVWXYZ[\\]^_`" ++ PySem.Str.ofString "abcdefghijklmnopqrstuvwxyz{|}~") = tx all94 := by decide +kernel
theorem all94_at {i : Int} (h1 : 0 ≤ i) (h2 : i < 94) : atI (tx all94).cps.toList i = some (all94.getD i.toNat 0) := by
  rw [tx_cps]
  have e : i = ((i.toNat : Nat) : Int) := by omega
  rw [e]
  unfold atI ixN
  have hlt : i.toNat < all94.length := by rw [all94_len]; omega
  rw [if_pos (by omega), if_pos (by omega)]
  show all94[((i.toNat : Nat) : Int).toNat]? = _
  rw [show ((i.toNat : Nat) : Int).toNat = i.toNat by omega, List.getElem?_eq_getElem hlt, List.getD_eq_getElem?_getD, List.getElem?_eq_getElem hlt]
  rfl
theorem ones_sum (l : List Nat) : ((l.map fun c => tx [c]).map (·.length)).sum = l.length := by
  induction l with
  | nil => rfl
  | cons a r ih =>
    rw [List.map_cons, List.map_cons, List.sum_cons, ih, tx_len, List.length_cons, List.length_cons]
    simp
    omega
def manyOf (c : Int) : Int := if c / 6 % 5 = 1 then 1 + c / 30 % 40 else 1 + c % 6
theorem manyOf_pos (c : Int) : 1 ≤ manyOf c ∧ manyOf c ≤ 40 := by
  unfold manyOf
  split
  · omega
  · omega
/-! halving as a function -/
def halveN : Nat → Int → List Int → List Int
  | 0, _, xs => xs
  | n + 1, cap, xs => if xs.sum ≤ cap then xs else halveN n cap (xs.map half)
theorem halveN_ok {cap : Int} : ∀ (m : Nat) (xs : List Int), xs.sum.toNat ≤ m → (∀ x ∈ xs, 1 ≤ x) → (xs.length : Int) ≤ cap → Halved cap xs (halveN m cap xs)
  | 0, xs, hm, h, hc => .stop (by have := sum_ge h; omega)
  | m + 1, xs, hm, h, hc => by
    unfold halveN
    by_cases hs : xs.sum ≤ cap
    · rw [if_pos hs]
      exact .stop hs
    · rw [if_neg hs]
      have := (sum_half h).2 (by omega)
      exact .step (by omega) (halveN_ok m (xs.map half) (by omega) (fun x hx => by
        obtain ⟨y, hy, rfl⟩ := List.mem_map.mp hx
        exact (half_pos (h y hy)).1) (by rw [List.length_map]; exact hc))
theorem halved_fun {cap : Int} {xs ys zs : List Int} (h : Halved cap xs ys) (g : Halved cap xs zs) : ys = zs := by
  induction h generalizing zs with
  | stop h =>
    cases g with
    | stop _ => rfl
    | step h' _ => omega
  | step h _ ih =>
    cases g with
    | stop h' => omega
    | step _ g' => exact ih g'
theorem halved_pos {cap : Int} {xs ys : List Int} (h : Halved cap xs ys) (hp : ∀ x ∈ xs, 1 ≤ x) : (∀ y ∈ ys, 1 ≤ y) ∧ ys.sum ≤ cap := by
  induction h with
  | stop h => exact ⟨hp, h⟩
  | step _ _ ih =>
    refine ih fun x hx => ?_
    obtain ⟨y, hy, rfl⟩ := List.mem_map.mp hx
    exact (half_pos (hp y hy)).1
theorem le_sum : ∀ {xs : List Int}, (∀ x ∈ xs, 1 ≤ x) → ∀ x ∈ xs, x ≤ xs.sum
  | [], _, x, hx => by simp at hx
  | y :: r, h, x, hx => by
    have h1 := h y List.mem_cons_self
    have h2 := sum_ge (xs := r) fun z hz => h z (List.mem_cons_of_mem _ hz)
    rw [List.sum_cons]
    rcases List.mem_cons.mp hx with e | hx
    · omega
    · have := le_sum (xs := r) (fun z hz => h z (List.mem_cons_of_mem _ hz)) x hx
      omega
def learntF (cap : Int) (ns cs : List Int) : List Int := halveN (sumZ ns cs).sum.toNat cap (sumZ ns cs)
theorem learntF_ok {cap : Int} {ns cs : List Int} (hS : Shares ns) (hC : Counts cs ns.length) (hc : (ns.length : Int) ≤ cap) : Halved cap (sumZ ns cs) (learntF cap ns cs) :=
  halveN_ok _ _ (Nat.le_refl _) (sumZ_pos (fun x hx => (hS.2.2 x hx).1) fun y hy => (hC.2 y hy).1) (by rw [sumZ_len hC.1]; exact hc)
theorem learntF_len {cap : Int} {ns cs : List Int} (hS : Shares ns) (hC : Counts cs ns.length) (hc : (ns.length : Int) ≤ cap) : (learntF cap ns cs).length = ns.length := by
  rw [halved_len (learntF_ok hS hC hc), sumZ_len hC.1]
theorem learntF_shares {cap : Int} {ns cs : List Int} (hS : Shares ns) (hC : Counts cs ns.length) (hc : (ns.length : Int) ≤ cap) (h2 : cap ≤ 1000000) : Shares (learntF cap ns cs) := by
  obtain ⟨h3, h4⟩ := halved_pos (learntF_ok hS hC hc) (sumZ_pos (fun x hx => (hS.2.2 x hx).1) fun y hy => (hC.2 y hy).1)
  have hl := learntF_len hS hC hc
  refine ⟨by rw [hl]; exact hS.1, by rw [hl]; exact hS.2.1, fun x hx => ⟨h3 x hx, ?_⟩⟩
  have := le_sum h3 x hx
  omega
/-! books -/
def Signs (ss : List Nat) : Prop := 1 ≤ ss.length ∧ ss.length ≤ 40 ∧ ss.Nodup ∧ ∀ c ∈ ss, 32 ≤ c ∧ c ≤ 126
structure Bk where
  ss : List Nat
  size : Nat
  cap : Int
def BookOk (B : Bk) : Prop := Signs B.ss ∧ 1 ≤ B.size ∧ B.size ≤ 99 ∧ (B.ss.length : Int) ≤ B.cap ∧ B.cap ≤ 1000000
def bf (B : Bk) : List (Str × V) := [("signs", .str (tx B.ss)), ("size", .int (B.size : Int)), ("cap", .int B.cap)]
def BookAt (mg : Str → Option Value) (H : Hp) (b : Addr) (B : Bk) : Prop := ∃ dx, H b = some (.ins (cadr mg "Book") dx (bf B))
theorem bf_signs (B : Bk) : (bf B).lookup ("signs" : Str) = some (.str (tx B.ss)) := by unfold bf; (repeat (first | exact lk_eq | exact lk_nil | (refine (lk_ne (by decide +kernel)).trans ?_)))
theorem bf_size (B : Bk) : (bf B).lookup ("size" : Str) = some (.int (B.size : Int)) := by unfold bf; (repeat (first | exact lk_eq | exact lk_nil | (refine (lk_ne (by decide +kernel)).trans ?_)))
theorem bf_cap (B : Bk) : (bf B).lookup ("cap" : Str) = some (.int B.cap) := by unfold bf; (repeat (first | exact lk_eq | exact lk_nil | (refine (lk_ne (by decide +kernel)).trans ?_)))
theorem BookAt.ex {mg : Str → Option Value} {H H' : Hp} {b : Addr} {B : Bk} (h : BookAt mg H b B) (e : Ex H H') : BookAt mg H' b B := by
  obtain ⟨dx, h⟩ := h
  exact ⟨dx, e _ _ h⟩
theorem BookAt.exS {mg : Str → Option Value} {H H' : Hp} {b : Addr} {B : Bk} {ms : List Addr} (h : BookAt mg H b B) (e : ExS ms H H') (n : b ∉ ms) : BookAt mg H' b B := by
  obtain ⟨dx, h⟩ := h
  exact ⟨dx, e _ _ n h⟩
/-! what is learnt so far: shares, the signs that wait -/
structure LS where
  ns : List Int
  ws : List Nat
def LS.start (B : Bk) : LS := ⟨List.replicate B.ss.length 1, []⟩
def LS.step (B : Bk) (s : LS) (c : Nat) : LS := if (s.ws ++ [c]).length = B.size then ⟨learntF B.cap s.ns (countsOf B.ss (s.ws ++ [c])), []⟩ else ⟨s.ns, s.ws ++ [c]⟩
def LS.steps (B : Bk) (s : LS) (cs : List Nat) : LS := cs.foldl (LS.step B) s
structure LS.Ok (B : Bk) (s : LS) : Prop where
  sh : Shares s.ns
  len : s.ns.length = B.ss.length
  ws : s.ws.length < B.size
theorem counts_okB {B : Bk} {n : Nat} {bs : List Nat} (hn : n = B.ss.length) (hb : bs.length ≤ 99) : Counts (countsOf B.ss bs) n := by
  refine ⟨by simp [countsOf, hn], fun x hx => ?_⟩
  obtain ⟨c, _, rfl⟩ := List.mem_map.mp hx
  have := List.count_le_length (a := c) (l := bs)
  omega
theorem LS.start_ok {B : Bk} (h : BookOk B) : (LS.start B).Ok B := by
  obtain ⟨⟨h1, h2, _⟩, h3, _⟩ := h
  refine ⟨⟨by simpa [LS.start] using h1, by simpa [LS.start] using h2, fun x hx => ?_⟩, by simp [LS.start], by show 0 < B.size; omega⟩
  have : x = 1 := (List.mem_replicate.mp hx).2
  omega
theorem LS.step_ok {B : Bk} {s : LS} {c : Nat} (h : BookOk B) (hs : s.Ok B) : (s.step B c).Ok B := by
  obtain ⟨h1, h2, h3⟩ := hs
  have hl : (s.ws ++ [c]).length = s.ws.length + 1 := by simp
  obtain ⟨_, hz1, hz2, hc1, hc2⟩ := id h
  unfold LS.step
  by_cases e : (s.ws ++ [c]).length = B.size
  · rw [if_pos e]
    have hC := counts_okB (bs := s.ws ++ [c]) h2 (by omega)
    have hc : (s.ns.length : Int) ≤ B.cap := by rw [h2]; exact hc1
    exact ⟨learntF_shares h1 hC hc hc2, by rw [learntF_len h1 hC hc]; exact h2, by show 0 < B.size; omega⟩
  · rw [if_neg e]
    exact ⟨h1, h2, by show (s.ws ++ [c]).length < B.size; omega⟩
theorem LS.steps_ok {B : Bk} (h : BookOk B) : ∀ (cs : List Nat) (s : LS), s.Ok B → (s.steps B cs).Ok B
  | [], _, hs => hs
  | c :: cs, s, hs => LS.steps_ok h cs (s.step B c) (LS.step_ok h hs)
theorem LS.steps_snoc (B : Bk) (s : LS) (cs : List Nat) (c : Nat) : s.steps B (cs ++ [c]) = (s.steps B cs).step B c := by
  unfold LS.steps
  rw [List.foldl_append]
  rfl
theorem LS.steps_app (B : Bk) (s : LS) (cs ds : List Nat) : s.steps B (cs ++ ds) = (s.steps B cs).steps B ds := by
  unfold LS.steps
  rw [List.foldl_append]
def lf (sh wd : Addr) (ws : List Nat) (b : Addr) : List (Str × V) := [("shares", .ref sh), ("words", .ref wd), ("waits", .str (tx ws)), ("_book", .ref b)]
theorem lf_shares (sh wd : Addr) (ws : List Nat) (b : Addr) : (lf sh wd ws b).lookup ("shares" : Str) = some (.ref sh) := by unfold lf; (repeat (first | exact lk_eq | exact lk_nil | (refine (lk_ne (by decide +kernel)).trans ?_)))
theorem lf_words (sh wd : Addr) (ws : List Nat) (b : Addr) : (lf sh wd ws b).lookup ("words" : Str) = some (.ref wd) := by unfold lf; (repeat (first | exact lk_eq | exact lk_nil | (refine (lk_ne (by decide +kernel)).trans ?_)))
theorem lf_waits (sh wd : Addr) (ws : List Nat) (b : Addr) : (lf sh wd ws b).lookup ("waits" : Str) = some (.str (tx ws)) := by unfold lf; (repeat (first | exact lk_eq | exact lk_nil | (refine (lk_ne (by decide +kernel)).trans ?_)))
theorem lf_book (sh wd : Addr) (ws : List Nat) (b : Addr) : (lf sh wd ws b).lookup ("_book" : Str) = some (.ref b) := by unfold lf; (repeat (first | exact lk_eq | exact lk_nil | (refine (lk_ne (by decide +kernel)).trans ?_)))
theorem lf_put_shares (x sh wd : Addr) (ws : List Nat) (b : Addr) : putF "shares" (.ref x) (lf sh wd ws b) = lf x wd ws b := by unfold lf; (repeat (first | rw [pf_eq] | rw [pf_nil] | rw [pf_ne (by decide +kernel)]))
theorem lf_put_words (x sh wd : Addr) (ws : List Nat) (b : Addr) : putF "words" (.ref x) (lf sh wd ws b) = lf sh x ws b := by unfold lf; (repeat (first | rw [pf_eq] | rw [pf_nil] | rw [pf_ne (by decide +kernel)]))
theorem lf_put_waits (us : List Nat) (sh wd : Addr) (ws : List Nat) (b : Addr) : putF "waits" (.str (tx us)) (lf sh wd ws b) = lf sh wd us b := by unfold lf; (repeat (first | rw [pf_eq] | rw [pf_nil] | rw [pf_ne (by decide +kernel)]))
theorem lf_len (sh wd : Addr) (ws : List Nat) (b : Addr) : (lf sh wd ws b).length < 1000 := by show 4 < 1000; decide
/-- a learner at l; its two lists are none of those at av -/
def LrnV (mg : Str → Option Value) (H : Hp) (l b : Addr) (s : LS) (av : List Addr) : Prop :=
  ∃ dx sh wd, H l = some (.ins (cadr mg "Learner") dx (lf sh wd s.ws b)) ∧ H sh = some (.lst (s.ns.map V.int)) ∧ H wd = some (.lst (wv (HF.codes s.ns))) ∧ sh ∉ av ∧ wd ∉ av
abbrev LrnAt (mg : Str → Option Value) (H : Hp) (l b : Addr) (s : LS) : Prop := LrnV mg H l b s []
/-- all these places are taken -/
def Taken (H : Hp) (av : List Addr) : Prop := ∀ a ∈ av, ∃ o, H a = some o
theorem Taken.nil {H : Hp} : Taken H [] := fun a h => by simp at h
theorem Taken.ex {H H' : Hp} {av : List Addr} (h : Taken H av) (e : Ex H H') : Taken H' av := fun a ha => by
  obtain ⟨o, h⟩ := h a ha
  exact ⟨o, e _ _ h⟩
theorem Taken.not {H : Hp} {av : List Addr} {x : Addr} (h : Taken H av) (hx : H x = none) : x ∉ av := fun z => by
  obtain ⟨o, h⟩ := h x z
  rw [hx] at h
  cases h
theorem Taken.exS {H H' : Hp} {av ms : List Addr} (h : Taken H av) (e : ExS ms H H') (hm : Taken H' ms) : Taken H' av := fun a ha => by
  by_cases hc : a ∈ ms
  · exact hm a hc
  · obtain ⟨o, h⟩ := h a ha
    exact ⟨o, e _ _ hc h⟩
theorem Taken.one {H : Hp} {x : Addr} {o : HO} (hx : H x = some o) : Taken H [x] := fun a ha => by
  rw [List.mem_singleton.mp ha]
  exact ⟨o, hx⟩
theorem Taken.cons {H : Hp} {av : List Addr} {x : Addr} {o : HO} (h : Taken H av) (hx : H x = some o) : Taken H (x :: av) := fun a ha => by
  rcases List.mem_cons.mp ha with e | ha
  · exact ⟨o, by rw [e]; exact hx⟩
  · exact h a ha
theorem LrnV.ex {mg : Str → Option Value} {H H' : Hp} {l b : Addr} {s : LS} {av : List Addr} (h : LrnV mg H l b s av) (e : Ex H H') : LrnV mg H' l b s av := by
  obtain ⟨dx, sh, wd, h1, h2, h3, h4⟩ := h
  exact ⟨dx, sh, wd, e _ _ h1, e _ _ h2, e _ _ h3, h4⟩
theorem LrnV.sub {mg : Str → Option Value} {H : Hp} {l b : Addr} {s : LS} {av aw : List Addr} (h : LrnV mg H l b s av) (e : ∀ a ∈ aw, a ∈ av) : LrnV mg H l b s aw := by
  obtain ⟨dx, sh, wd, h1, h2, h3, h4, h5⟩ := h
  exact ⟨dx, sh, wd, h1, h2, h3, fun z => h4 (e _ z), fun z => h5 (e _ z)⟩
/-- what is new is none of its lists -/
theorem LrnV.cons {mg : Str → Option Value} {H : Hp} {l b r : Addr} {s : LS} {av : List Addr} (h : LrnV mg H l b s av) (hr : H r = none) : LrnV mg H l b s (r :: av) := by
  obtain ⟨dx, sh, wd, h1, h2, h3, h4, h5⟩ := h
  refine ⟨dx, sh, wd, h1, h2, h3, fun z => ?_, fun z => ?_⟩
  · rcases List.mem_cons.mp z with z | z
    · rw [z, hr] at h2
      cases h2
    · exact h4 z
  · rcases List.mem_cons.mp z with z | z
    · rw [z, hr] at h3
      cases h3
    · exact h5 z
/-- instances stand at these places -/
def InsAt (H : Hp) (ms : List Addr) : Prop := ∀ a ∈ ms, ∃ C dx fs, H a = some (.ins C dx fs)
theorem InsAt.not {H : Hp} {ms : List Addr} {a : Addr} {xs : List V} (h : InsAt H ms) (e : H a = some (.lst xs)) : a ∉ ms := fun hm => by
  obtain ⟨C, dx, fs, h1⟩ := h a hm
  rw [e] at h1
  cases h1
theorem InsAt.one {H : Hp} {a C dx : Addr} {fs : List (Str × V)} (h : H a = some (.ins C dx fs)) : InsAt H [a] := fun b hb => by
  rw [List.mem_singleton.mp hb]
  exact ⟨C, dx, fs, h⟩
theorem LrnV.ins {mg : Str → Option Value} {H : Hp} {l b : Addr} {s : LS} {av : List Addr} (h : LrnV mg H l b s av) : ∃ C dx fs, H l = some (.ins C dx fs) := by
  obtain ⟨dx, sh, wd, h1, _⟩ := h
  exact ⟨_, _, _, h1⟩
theorem LrnV.taken {mg : Str → Option Value} {H : Hp} {l b : Addr} {s : LS} {av : List Addr} (h : LrnV mg H l b s av) : Taken H [l] := by
  obtain ⟨C, dx, fs, h1⟩ := h.ins
  exact Taken.one h1
theorem LrnV.insAt {mg : Str → Option Value} {H : Hp} {l b : Addr} {s : LS} {av : List Addr} (h : LrnV mg H l b s av) : InsAt H [l] := by
  obtain ⟨C, dx, fs, h1⟩ := h.ins
  exact InsAt.one h1
theorem LrnV.exS {mg : Str → Option Value} {H H' : Hp} {l b : Addr} {s : LS} {av ms : List Addr} (h : LrnV mg H l b s av) (e : ExS ms H H') (n : l ∉ ms) (hi : InsAt H ms) : LrnV mg H' l b s av := by
  obtain ⟨dx, sh, wd, h1, h2, h3, h4⟩ := h
  exact ⟨dx, sh, wd, e _ _ n h1, e _ _ (hi.not h2) h2, e _ _ (hi.not h3) h3, h4⟩
/-- one of the others is changed -/
theorem LrnV.mut {mg : Str → Option Value} {H H' : Hp} {l b : Addr} {s : LS} {av ms : List Addr} (h : LrnV mg H l b s av) (e : ExS ms H H') (n : l ∉ ms) (hs : ∀ a ∈ ms, a ∈ av) : LrnV mg H' l b s av := by
  obtain ⟨dx, sh, wd, h1, h2, h3, h4, h5⟩ := h
  exact ⟨dx, sh, wd, e _ _ n h1, e _ _ (fun z => h4 (hs _ z)) h2, e _ _ (fun z => h5 (hs _ z)) h3, h4, h5⟩
/-! the signs of the laws are all other -/
theorem all94_nodup : all94.Nodup := by decide +kernel
theorem all94_mem : ∀ c ∈ all94, 32 ≤ c ∧ c ≤ 126 := by decide +kernel
theorem step94 : ∀ t : Fin 23, ∀ d : Fin 42, d.val ≠ 0 → (d.val * (1 + 2 * t.val)) % 94 ≠ 0 := by decide +kernel
theorem signsOf_ok {c : Int} {m : Nat} (h1 : 1 ≤ m) (h2 : m ≤ 42) : (signsOf c m).Nodup ∧ ∀ x ∈ signsOf c m, 32 ≤ x ∧ x ≤ 126 := by
  have hlen : all94.length = 94 := all94_len
  have hat : ∀ i : Int, ((i % 94).toNat) < all94.length := fun i => by rw [hlen]; omega
  constructor
  · unfold signsOf
    refine List.pairwise_iff_getElem.mpr fun i j hi hj hij => ?_
    rw [List.length_map, List.length_range] at hi hj
    rw [List.getElem_map, List.getElem_map, List.getElem_range, List.getElem_range]
    intro h
    rw [List.getD_eq_getElem?_getD, List.getD_eq_getElem?_getD, List.getElem?_eq_getElem (hat _), List.getElem?_eq_getElem (hat _)] at h
    have h := (List.getElem_inj all94_nodup).mp h
    have ht := Int.emod_nonneg (c / 94) (show (23 : Int) ≠ 0 by decide)
    have ht2 := Int.emod_lt_of_pos (c / 94) (show (0 : Int) < 23 by decide)
    obtain ⟨t, et⟩ : ∃ t : Nat, c / 94 % 23 = (t : Int) := ⟨(c / 94 % 23).toNat, by omega⟩
    rw [et] at h ht2
    obtain ⟨d, rfl⟩ : ∃ d, j = i + d := ⟨j - i, by omega⟩
    have key := step94 ⟨t, by omega⟩ ⟨d, by omega⟩ (by show d ≠ 0; omega)
    have key : (d * (1 + 2 * t)) % 94 ≠ 0 := key
    have e1 : ((c + ((i : Nat) : Int) * (1 + 2 * (t : Int))) % 94) = ((c + ((i + d : Nat) : Int) * (1 + 2 * (t : Int))) % 94) := by omega
    have e2 : ((i + d : Nat) : Int) * (1 + 2 * (t : Int)) = ((i : Nat) : Int) * (1 + 2 * (t : Int)) + ((d * (1 + 2 * t) : Nat) : Int) := by
      rw [Int.natCast_add, Int.add_mul, Int.natCast_mul, Int.natCast_add, Int.natCast_mul]
      rfl
    rw [e2] at e1
    generalize ((i : Nat) : Int) * (1 + 2 * (t : Int)) = w at e1
    generalize d * (1 + 2 * t) = z at e1 key
    omega
  · intro x hx
    unfold signsOf at hx
    obtain ⟨k, _, rfl⟩ := List.mem_map.mp hx
    rw [List.getD_eq_getElem?_getD, List.getElem?_eq_getElem (hat _)]
    exact all94_mem _ (List.getElem_mem _)
theorem signs_ok {c : Int} {m : Nat} (h1 : 1 ≤ m) (h2 : m ≤ 40) : Signs (signsOf c m) := by
  have := signsOf_ok (c := c) h1 (by omega)
  exact ⟨by rw [signsOf_len]; exact h1, by rw [signsOf_len]; exact h2, this.1, this.2⟩
/-- the laws' book -/
def bkZ (c : Int) : Int := if c / 6 % 4 = 1 then 1 + c / 24 % 99 else 1 + c % 6
def bkS (m z : Int) : Int := if m > 9 then (if 9 > z then 9 else z) else z
def bkC (m c : Int) : Int := if c / 12 % 4 = 1 then m + c / 48 % (1000001 - m) else m + c % 12
theorem bkZ_ok (c : Int) : 1 ≤ bkZ c ∧ bkZ c ≤ 99 := by
  unfold bkZ
  split <;> omega
theorem bkS_ok {m z : Int} (h : 1 ≤ z ∧ z ≤ 99) : 1 ≤ bkS m z ∧ bkS m z ≤ 99 := by
  unfold bkS
  split <;> (try split) <;> omega
theorem bkC_ok {m c : Int} (h : 1 ≤ m ∧ m ≤ 40) : m ≤ bkC m c ∧ bkC m c ≤ 1000000 := by
  have g1 := Int.emod_nonneg (c / 48) (show (1000001 - m) ≠ 0 by omega)
  have g2 := Int.emod_lt_of_pos (c / 48) (show 0 < (1000001 - m) by omega)
  unfold bkC
  split <;> omega
def bookOf (ns : List Int) : Bk := ⟨signsOf (cel ns 1) (manyOf (cel ns 0)).toNat, (bkS (manyOf (cel ns 0)) (bkZ (cel ns 2))).toNat, bkC (manyOf (cel ns 0)) (cel ns 3)⟩
theorem bookOf_ok (ns : List Int) : BookOk (bookOf ns) := by
  have hm := manyOf_pos (cel ns 0)
  have h1 := bkS_ok (m := manyOf (cel ns 0)) (bkZ_ok (cel ns 2))
  have h2 := bkC_ok (c := cel ns 3) hm
  refine ⟨signs_ok (by omega) (by omega), ?_, ?_, ?_, h2.2⟩
  · show 1 ≤ Int.toNat _
    omega
  · show Int.toNat _ ≤ 99
    omega
  · show ((signsOf (cel ns 1) (manyOf (cel ns 0)).toNat).length : Int) ≤ bkC _ _
    rw [signsOf_len]
    omega
/-- the laws' texts -/
def textOf (ns : List Int) (f : Nat) (ss : List Nat) (n : Nat) : List Nat := (List.range n).map fun k : Nat => ss.getD ((cel ns (f + 1 + k) + (k : Int) * (cel ns f % 5)) % (ss.length : Int)).toNat 0
theorem textOf_len (ns : List Int) (f : Nat) (ss : List Nat) (n : Nat) : (textOf ns f ss n).length = n := by simp [textOf]
theorem textOf_mem {ns : List Int} {f : Nat} {ss : List Nat} {n : Nat} (h : 1 ≤ ss.length) : ∀ c ∈ textOf ns f ss n, c ∈ ss := fun c hc => by
  unfold textOf at hc
  obtain ⟨k, _, rfl⟩ := List.mem_map.mp hc
  have g1 := Int.emod_nonneg (cel ns (f + 1 + k) + (k : Int) * (cel ns f % 5)) (show (ss.length : Int) ≠ 0 by omega)
  have g2 := Int.emod_lt_of_pos (cel ns (f + 1 + k) + (k : Int) * (cel ns f % 5)) (show 0 < (ss.length : Int) by omega)
  rw [List.getD_eq_getElem?_getD, List.getElem?_eq_getElem (by omega)]
  exact List.getElem_mem _
end SP

set_option maxHeartbeats 4000000
namespace SP
open PySem L2 Evl
open PySem.W (Datum)
/-! == and != of nested data -/
def rEqX (K : PySem.W.Frag) (neg : Bool) : R2 := fun x y H Q => ∃ d e : PyData, Dp K H x d ∧ Dp K H y e ∧ d.plain = true ∧ e.plain = true ∧ d.depth ≤ 64 ∧ Q (.bl (neg != PyData.eqv d e)) H
theorem op_eqX {X : Cx} (hu : X.A.units + 64 < cLine) : OpR X (compareOp .Eq) (rEqX X.K false) := by
  intro pins s σ H x y v u Q I rx ry h
  obtain ⟨d, e, hd, he, sd, se, hz, q⟩ := h
  obtain ⟨as, r1⟩ := Dp.reads I d x v hd rx
  obtain ⟨bs, r2⟩ := Dp.reads I e y u he ry
  refine PySem.SeqAt.eq_plain r1 r2 sd se (by omega) ⟨.bl _, H, I, rfl, ?_⟩
  simpa using q
theorem op_neX {X : Cx} (hu : X.A.units + 64 < cLine) : OpR X (compareOp .NotEq) (rEqX X.K true) := by
  intro pins s σ H x y v u Q I rx ry h
  obtain ⟨d, e, hd, he, sd, se, hz, q⟩ := h
  obtain ⟨as, r1⟩ := Dp.reads I d x v hd rx
  obtain ⟨bs, r2⟩ := Dp.reads I e y u he ry
  refine PySem.SeqAt.ne_plain r1 r2 sd se (by omega) ⟨.bl _, H, I, rfl, ?_⟩
  simpa using q
mutual
theorem Dp.ex {K : PySem.W.Frag} {H H' : Hp} (e : Ex H H') : ∀ (d : PyData) (v : V), Dp K H v d → Dp K H' v d
  | _, _, .non => .non
  | _, _, .bl b => .bl b
  | _, _, .int i => .int i
  | _, _, .str x => .str x
  | _, _, .lst h r => .lst (ex_l e h) (DpAll.ex e _ _ r)
  | _, _, .tup h r => .tup (ex_t e h) (DpAll.ex e _ _ r)
theorem DpAll.ex {K : PySem.W.Frag} {H H' : Hp} (e : Ex H H') : ∀ (ds : List PyData) (vs : List V), DpAll K H vs ds → DpAll K H' vs ds
  | _, _, .nil => .nil
  | _, _, .cons h r => .cons (Dp.ex e _ _ h) (DpAll.ex e _ _ r)
end
/-- v is the datum x -/
def Is (K : PySem.W.Frag) (H : Hp) (v : V) {α : Type} [DecidableEq α] [Datum α] (x : α) : Prop := Dp K H v (Datum.toD x)
section
variable {K : PySem.W.Frag} {σ : L2.St} {H H' : Hp} {ta tb te : TE} {α β : Type} [DecidableEq α] [Datum α] [DecidableEq β] [Datum β] {v w : V} {x y : α}
theorem Is.ex (h : Is K H v x) (e : Ex H H') : Is K H' v x := Dp.ex e _ _ h
theorem rv_eqX (h1 : Is K H v x) (h2 : Is K H w y) (hd : Datum.depth α ≤ 64) : RV (rEqX K false) v w H (.bl (decide (x = y))) := fun H1 e1 Q q =>
  ⟨_, _, h1.ex e1, h2.ex e1, Datum.plain x, Datum.plain y, Nat.le_trans (Datum.depth_le x) hd, by
    rw [Datum.eqv]
    have := q H1 (Ex.refl _)
    simpa using this⟩
theorem rv_neX (h1 : Is K H v x) (h2 : Is K H w y) (hd : Datum.depth α ≤ 64) : RV (rEqX K true) v w H (.bl (!decide (x = y))) := fun H1 e1 Q q =>
  ⟨_, _, h1.ex e1, h2.ex e1, Datum.plain x, Datum.plain y, Nat.le_trans (Datum.depth_le x) hd, by
    rw [Datum.eqv]
    have := q H1 (Ex.refl _)
    simpa using this⟩
theorem rv_eqX1 (h1 : Is K H v x) (h2 : Is K H w x) (hd : Datum.depth α ≤ 64) : RV (rEqX K false) v w H (.bl true) := by
  have := rv_eqX h1 h2 hd
  simpa using this
theorem rv_neX0 (h1 : Is K H v x) (h2 : Is K H w x) (hd : Datum.depth α ≤ 64) : RV (rEqX K true) v w H (.bl false) := by
  have := rv_neX h1 h2 hd
  simpa using this
theorem is_int (i : Int) : Is K H (.int i) i := .int i
theorem is_str (z : Str) : Is K H (.str z) z := .str z
theorem dall {f : α → V} (h : ∀ x, Is K H (f x) x) : ∀ xs : List α, DpAll K H (xs.map f) (xs.map Datum.toD)
  | [] => .nil
  | x :: xs => .cons (h x) (dall h xs)
/-- items by place -/
theorem dall_at : ∀ {vs : List V} {xs : List α}, vs.length = xs.length → (∀ (i : Nat) v x, vs[i]? = some v → xs[i]? = some x → Is K H v x) → DpAll K H vs (xs.map Datum.toD)
  | [], [], _, _ => .nil
  | v :: vs, x :: xs, hl, h => .cons (h 0 v x rfl rfl) (dall_at (by simpa using hl) fun i v x h1 h2 => h (i + 1) v x (by simpa using h1) (by simpa using h2))
theorem is_listP {a : Addr} {vs : List V} {xs : List α} (h : SqL K H a vs) (hl : vs.length = xs.length) (hi : ∀ (i : Nat) v x, vs[i]? = some v → xs[i]? = some x → Is K H v x) : Is K H (.ref a) xs := .lst h (dall_at hl hi)
theorem is_pair {a : Addr} {v w : V} {x : α} {y : β} (h : SqT K H a [v, w]) (h1 : Is K H v x) (h2 : Is K H w y) : Is K H (.ref a) (x, y) := .tup h (.cons h1 (.cons h2 .nil))
theorem is_ints {a : Addr} {ns : List Int} (h : SqL K H a (ns.map V.int)) : Is K H (.ref a) ns := .lst h (dall (f := V.int) (fun i => is_int i) ns)
theorem is_strs {a : Addr} {zs : List Str} (h : SqL K H a (zs.map V.str)) : Is K H (.ref a) zs := .lst h (dall (f := V.str) (fun i => is_str i) zs)
end
def wz (D : HF.Wd) : List Str := D.map tx
theorem wz_inj {D E : HF.Wd} : wz D = wz E ↔ D = E := by
  constructor
  · intro h
    unfold wz at h
    induction D generalizing E with
    | nil => cases E with
      | nil => rfl
      | cons _ _ => simp at h
    | cons a D ih => cases E with
      | nil => simp at h
      | cons b E =>
        rw [List.map_cons, List.map_cons] at h
        injection h with h1 h2
        rw [tx_inj h1, ih h2]
  · intro h
    rw [h]
theorem is_words {K : PySem.W.Frag} {H : Hp} {a : Addr} {D : HF.Wd} (h : SqL K H a (wv D)) : Is K H (.ref a) (wz D) := is_strs (zs := wz D) (by
  have e : (wz D).map V.str = wv D := by
    unfold wz wv
    rw [List.map_map]
    rfl
  rw [e]
  exact h)
end SP
namespace SP
open PySem L2 Evl
open PySem.W (Datum)
/-- what evaluates to a datum, wherever it stands -/
def EvD (K : PySem.W.Frag) (te : TE) (σ : L2.St) (H : Hp) {α : Type} [DecidableEq α] [Datum α] (x : α) : Prop := ∀ H1, Ex H H1 → ∀ Q : VK, (∀ v H2, Ex H1 H2 → Is K H2 v x → Q v H2) → te σ H1 Q
section
variable {K : PySem.W.Frag} {σ : L2.St} {H H' : Hp} {ta tb te : TE} {α : Type} [DecidableEq α] [Datum α] {v w : V} {x y : α}
theorem ed_ev (h : Ev te σ H v) (i : Is K H v x) : EvD K te σ H x := fun H1 e Q q => h H1 e Q fun H2 e2 => q v H2 e2 (i.ex (e.trans e2))
theorem ed_eq (ha : EvD K ta σ H x) (hb : EvD K tb σ H y) (hd : Datum.depth α ≤ 64) : Ev (tOp (rEqX K false) ta tb) σ H (.bl (decide (x = y))) := fun H1 e Q q =>
  ha H1 e _ fun v H2 e2 h2 => hb H2 (e.trans e2) _ fun w H3 e3 h3 => rv_eqX (h2.ex e3) h3 hd H3 (Ex.refl _) Q fun H4 e4 => q H4 ((e2.trans e3).trans e4)
theorem ed_ne (ha : EvD K ta σ H x) (hb : EvD K tb σ H y) (hd : Datum.depth α ≤ 64) : Ev (tOp (rEqX K true) ta tb) σ H (.bl (!decide (x = y))) := fun H1 e Q q =>
  ha H1 e _ fun v H2 e2 h2 => hb H2 (e.trans e2) _ fun w H3 e3 h3 => rv_neX (h2.ex e3) h3 hd H3 (Ex.refl _) Q fun H4 e4 => q H4 ((e2.trans e3).trans e4)
theorem ed_eq1 (ha : EvD K ta σ H x) (hb : EvD K tb σ H x) (hd : Datum.depth α ≤ 64) : Ev (tOp (rEqX K false) ta tb) σ H (.bl true) := by
  have := ed_eq ha hb hd
  simpa using this
theorem ed_ne0 (ha : EvD K ta σ H x) (hb : EvD K tb σ H x) (hd : Datum.depth α ≤ 64) : Ev (tOp (rEqX K true) ta tb) σ H (.bl false) := by
  have := ed_ne ha hb hd
  simpa using this
theorem ed_words {D : HF.Wd} (h : EvL te σ H (wv D)) : EvD K te σ H (wz D) := fun H1 e Q q => h H1 e Q fun p H2 _ e2 h2 => q _ H2 e2 (is_words (sq_of h2))
theorem ed_ints {ns : List Int} (h : EvL te σ H (ns.map V.int)) : EvD K te σ H ns := fun H1 e Q q => h H1 e Q fun p H2 _ e2 h2 => q _ H2 e2 (is_ints (sq_of h2))
end
/-- list(..) of a list, in a comprehension -/
theorem call_list_ofK {X : Cx} {K : PySem.W.Frag} (hK : X.K = K) : CallR X (.type "list") (rListS K) := by
  subst hK
  exact call_list_of
section
variable {K : PySem.W.Frag} {σ : L2.St} {H H' : Hp} {ta tb te tl : TE}
/-- a call, its promise at the heap as it stands then -/
theorem er_cal {sp : Sp} {vs : List V} {E : XK} {Q : VK} {t : TA} (ha : EvA t σ H vs) (k : ∀ H1, Ex H H1 → sp vs H1 Q E) : tCall sp [] E t σ H Q :=
  ha H (Ex.refl H) _ fun H1 e1 => by
    rw [List.append_nil]
    exact k H1 e1
/-- a comprehension over a list that is new -/
theorem el_mapNL {xs : List V} {j : Nat} {vs : List Nat} (ys : List V) (h : EvL tl σ H xs) (hn : ys.length = xs.length) (hz : xs.length ≤ 40000) (hw : ∀ x, wipe ((wipe σ vs).set j (some x)) vs = wipe σ vs)
    (he : ∀ (i : Nat) (x y : V) H1, Ex H H1 → xs[i]? = some x → ys[i]? = some y → Ev te ((wipe σ vs).set j (some x)) H1 y) : EvL (tLc (iList K tl) (gName j) tYes te vs) σ H ys := fun H0 e Q q => h H0 e _ fun a H1 ha e1 hx => ⟨a, rfl, ⟨xs, sq_of hx⟩, fun Dl hD =>
  lc_list (xs := xs) (Cm H1 ys Dl) ⟨hD, Ex.new hD, upd_same⟩ (fun i H' _ p => sq_of (p.2.1 _ _ hx)) (fun i x H' hi p => by
    obtain ⟨y, hy⟩ := get_of hn (List.getElem?_eq_some_iff.mp hi).1
    refine ⟨hw x, ?_⟩
    show te _ H' _
    exact cm_turn p (Ex.refl _) hy (by omega) (he i x y H1 (e.trans e1) hi hy)) (fun H' p => q Dl H' (fresh_back e1 p.1) (e1.trans p.2.1) (cm_end p hn))⟩
theorem rv_ixT0 {p : Addr} {v : V} {xs : List V} (h : SqT K H p (v :: xs)) : RV (rIxT K) (.ref p) (.int 0) H v := rv_ixT h (by
  show atI (v :: xs) ((0 : Nat) : Int) = some v
  exact atI_nat rfl)
theorem rv_ixT1 {p : Addr} {u v : V} {xs : List V} (h : SqT K H p (u :: v :: xs)) : RV (rIxT K) (.ref p) (.int 1) H v := rv_ixT h (by
  show atI (u :: v :: xs) ((1 : Nat) : Int) = some v
  exact atI_nat rfl)
end
end SP
namespace SP
open PySem L2 Evl
/-- what isinstance asks of an own class -/
structure KiC (K : PySem.W.Frag) (C : Addr) : Prop where
  k1 : PySem.W.findIn K (.ref C) "__class__" = some (some (.builtin "object.__class__"))
  k2 : PySem.W.specialIn K (.builtin "object.__class__") "__get__" = some (some (.builtin "getset_descriptor.__get__"))
  k3 : PySem.W.takesIn K (.builtin "object.__class__") = some true
  k4 : PySem.W.mroIn K C (.type "object") = some true
  k5 : PySem.W.kitOne K (.ref C) (.ref C) = some true
section
variable {K : PySem.W.Frag} {σ : L2.St} {H H' : Hp} {ta tb te tl : TE}
/-- isinstance(x, C), x an instance of C -/
theorem ev_isiC {p C dx : Addr} {fs : List (Str × V)} (ha : Ev ta σ H (.ref p)) (hb : Ev tb σ H (.ref C)) (hp : H p = some (.ins C dx fs)) (c : Cls K C) (hk : KiC K C) : Ev (tCB (rIsi K) (tCons ta (tCons tb tNil))) σ H (.bl true) := fun H1 e Q q =>
  ha H1 e _ fun H2 e2 => hb H2 (e.trans e2) _ fun H3 e3 => ⟨.ref p, .ref C, .ref C, .ref C, true, rfl, .own C, .base (.ins (((e.trans e2).trans e3) _ _ hp) c hk.k1 hk.k2 hk.k3 hk.k4), hk.k5, q H3 (e2.trans e3)⟩
end
end SP

set_option maxHeartbeats 4000000
namespace SP
open PySem L2 Evl
/-! packing: the mathematics -/
theorem idx_least {l : List Nat} {c : Nat} : ∀ {i : Nat}, l[i]? = some c → l.idxOf c ≤ i := by
  induction l with
  | nil => intro i h; simp at h
  | cons a r ih =>
    intro i h
    by_cases e : a = c
    · rw [e, List.idxOf_cons_self]
      exact Nat.zero_le _
    · rw [List.idxOf_cons, show (a == c) = false by simpa using e]
      show List.idxOf c r + 1 ≤ i
      cases i with
      | zero => exact absurd (by simpa using h) e
      | succ i =>
        have := ih (i := i) (by simpa using h)
        omega
theorem idx_at {l : List Nat} {c : Nat} (h : c ∈ l) : l[l.idxOf c]? = some c := by
  have hl := List.idxOf_lt_length_of_mem h
  rw [List.getElem?_eq_getElem hl, List.getElem_idxOf]
theorem idx_nodup {l : List Nat} (hn : l.Nodup) {i c : Nat} (h : l[i]? = some c) : l.idxOf c = i := by
  have h1 := idx_at (List.mem_of_getElem? h)
  obtain ⟨hi, e⟩ := List.getElem?_eq_some_iff.mp h
  obtain ⟨hj, e2⟩ := List.getElem?_eq_some_iff.mp h1
  exact (List.getElem_inj hn).mp (e2.trans e.symm)
theorem idx_occ {l : List Nat} {c : Nat} (h : c ∈ l) : ∃ rest, Builtin.Str.occurrences (tx l) (tx [c]) 0 (tx l).length 1 = l.idxOf c :: rest := by
  rcases StrLaws.occ_head (tx l) (tx [c]) 1 (Nat.le_refl _) with ⟨h0, hn⟩ | ⟨i, r, e, ha, hn⟩
  · exact absurd ((StrLaws.subAt_one (tx l) c (l.idxOf c)).mpr (by rw [tx_cps]; exact idx_at h)) (hn (l.idxOf c))
  · have hi : l[i]? = some c := by
      have := (StrLaws.subAt_one (tx l) c i).mp ha
      rwa [tx_cps] at this
    have h1 := idx_least hi
    have h2 : ¬ l.idxOf c < i := fun z => hn _ z ((StrLaws.subAt_one (tx l) c (l.idxOf c)).mpr (by rw [tx_cps]; exact idx_at h))
    have e2 : i = l.idxOf c := by omega
    exact ⟨r, by rw [e, e2]⟩
theorem join_words : ∀ D : HF.Wd, Txt.join (tx []) (wz D) = tx D.flatten := fun D => by
  show Builtin.Str.glued _ _ = _
  rw [StrLaws.glued_eq_join]
  induction D with
  | nil => rfl
  | cons a r ih =>
    cases r with
    | nil =>
      show tx a = tx (a ++ [])
      rw [List.append_nil]
    | cons b r =>
      show tx a ++ tx [] ++ Str.join (tx []) (wz (b :: r)) = tx (a ++ (b :: r).flatten)
      rw [ih, tx_app, tx_app, List.append_nil]
theorem wv_wz (D : HF.Wd) : wv D = (wz D).map V.str := by
  unfold wz wv
  rw [List.map_map]
  rfl
def code1 (B : Bk) (s : LS) (c : Nat) : List Nat := (HF.codes s.ns).getD (B.ss.idxOf c) []
def packL (B : Bk) : LS → List Nat → HF.Wd
  | _, [] => []
  | s, c :: cs => code1 B s c :: packL B (s.step B c) cs
def packF (B : Bk) (s : LS) (cs : List Nat) : List Nat := (packL B s cs).flatten
theorem packL_app (B : Bk) : ∀ (cs ds : List Nat) (s : LS), packL B s (cs ++ ds) = packL B s cs ++ packL B (s.steps B cs) ds
  | [], _, _ => rfl
  | c :: cs, ds, s => by
    show code1 B s c :: packL B (s.step B c) (cs ++ ds) = code1 B s c :: (packL B (s.step B c) cs ++ packL B ((s.step B c).steps B cs) ds)
    rw [packL_app B cs ds]
theorem packF_app (B : Bk) (cs ds : List Nat) (s : LS) : packF B s (cs ++ ds) = packF B s cs ++ packF B (s.steps B cs) ds := by
  unfold packF
  rw [packL_app, List.flatten_append]
theorem packF_cons (B : Bk) (c : Nat) (cs : List Nat) (s : LS) : packF B s (c :: cs) = code1 B s c ++ packF B (s.step B c) cs := rfl
theorem packL_len (B : Bk) : ∀ (cs : List Nat) (s : LS), (packL B s cs).length = cs.length
  | [], _ => rfl
  | c :: cs, s => by
    show (packL B (s.step B c) cs).length + 1 = cs.length + 1
    rw [packL_len B cs]
theorem code1_get {B : Bk} {s : LS} {c : Nat} (hs : s.Ok B) (hc : c ∈ B.ss) : (HF.codes s.ns)[B.ss.idxOf c]? = some (code1 B s c) := by
  have hl : B.ss.idxOf c < (HF.codes s.ns).length := by
    rw [HF.codes_len, hs.len]
    exact List.idxOf_lt_length_of_mem hc
  unfold code1
  rw [List.getD_eq_getElem?_getD, List.getElem?_eq_getElem hl]
  rfl
theorem code1_ok {B : Bk} {s : LS} {c : Nat} (hs : s.Ok B) (hc : c ∈ B.ss) : (∀ b ∈ code1 B s c, b = 48 ∨ b = 49) ∧ (code1 B s c).length + 1 ≤ B.ss.length := by
  have := HF.code_bits hs.sh.1 (code1_get hs hc)
  rw [hs.len] at this
  exact this
theorem packF_ok {B : Bk} (hB : BookOk B) : ∀ (cs : List Nat) (s : LS), s.Ok B → (∀ c ∈ cs, c ∈ B.ss) → (∀ b ∈ packF B s cs, b = 48 ∨ b = 49) ∧ (packF B s cs).length ≤ 40 * cs.length
  | [], _, _, _ => ⟨fun b hb => by simp [packF, packL] at hb, by simp [packF, packL]⟩
  | c :: cs, s, hs, hm => by
    have h1 := code1_ok hs (hm c List.mem_cons_self)
    have h2 := packF_ok hB cs (s.step B c) (LS.step_ok hB hs) fun d hd => hm d (List.mem_cons_of_mem _ hd)
    have h3 := hB.1.2.1
    rw [packF_cons]
    refine ⟨fun b hb => ?_, by rw [List.length_append, List.length_cons]; omega⟩
    rcases List.mem_append.mp hb with hb | hb
    · exact h1.1 b hb
    · exact h2.1 b hb
theorem packL_sizes {B : Bk} (hB : BookOk B) (cs : List Nat) (s : LS) (hs : s.Ok B) (hm : ∀ c ∈ cs, c ∈ B.ss) : ((wz (packL B s cs)).map (·.length)).sum ≤ 40 * cs.length := by
  have h := (packF_ok hB cs s hs hm).2
  have e : ∀ D : HF.Wd, ((wz D).map (·.length)).sum = D.flatten.length := fun D => by
    induction D with
    | nil => rfl
    | cons a r ih =>
      show (tx a).length + ((wz r).map (·.length)).sum = (a ++ r.flatten).length
      rw [ih, tx_len, List.length_append]
  rw [e]
  exact h
/-! slices of a text -/
theorem cutS_mid (l : List Nat) (i j : Nat) : cutS (tx l) (some (i : Int)) (some (j : Int)) = tx ((l.drop i).take (j - i)) := by
  unfold cutS
  rw [HT.sIx_nat, HT.sIx_nat, tx_cps, tx_len]
  show tx _ = tx _
  congr 1
  by_cases hi : i ≤ l.length
  · rw [Nat.min_eq_left hi]
    by_cases hj : j ≤ l.length
    · rw [Nat.min_eq_left hj]
    · rw [Nat.min_eq_right (show l.length ≤ j by omega), List.take_of_length_le (by rw [List.length_drop]; omega), List.take_of_length_le (by rw [List.length_drop]; omega)]
  · rw [Nat.min_eq_right (show l.length ≤ i by omega), List.drop_of_length_le (Nat.le_refl _), List.drop_of_length_le (show l.length ≤ i by omega)]
    simp
theorem cutS_from (l : List Nat) (i : Nat) : cutS (tx l) (some (i : Int)) none = tx (l.drop i) := by
  unfold cutS
  rw [HT.sIx_none, HT.sIx_nat, tx_cps, tx_len]
  show tx _ = tx _
  congr 1
  by_cases hi : i ≤ l.length
  · rw [Nat.min_eq_left hi, List.take_of_length_le (by rw [List.length_drop]; omega)]
  · rw [Nat.min_eq_right (show l.length ≤ i by omega), List.drop_of_length_le (Nat.le_refl _), List.drop_of_length_le (show l.length ≤ i by omega)]
    simp
/-! range(0, n, c) -/
def turns (n c : Nat) : Nat := if 0 < n then (n - 1) / c + 1 else 0
theorem rgC_up {n c : Nat} (h1 : 1 ≤ c) (h2 : c ≤ 1000) (h3 : n ≤ 100000) : RgC 0 (n : Int) (c : Int) (turns n c) := by
  have hs : Builtin.Range.rangeSize 0 (n : Int) (c : Int) = ((turns n c : Nat) : Int) := by
    unfold Builtin.Range.rangeSize turns
    rw [if_pos (by omega)]
    by_cases hn : 0 < n
    · rw [if_pos (by omega), if_pos hn]
      have e : ((n : Int) - 0 - 1) = ((n - 1 : Nat) : Int) := by omega
      rw [e]
      rw [Int.natCast_add, Int.natCast_ediv]
      rfl
    · rw [if_neg (by omega), if_neg hn]
      rfl
  have hle : turns n c ≤ n := by
    unfold turns
    by_cases hn : 0 < n
    · rw [if_pos hn]
      have := Nat.div_le_self (n - 1) c
      omega
    · rw [if_neg hn]
      omega
  refine ⟨by omega, by omega, ?_, hs⟩
  unfold Builtin.Range.small
  rw [hs]
  generalize turns n c = m at hle
  simp only [Builtin.Range.rangeFitsLong, Bool.and_eq_true, Bool.or_eq_true, decide_eq_true_eq, beq_iff_eq]
  rw [if_pos (show (c : Int) > 0 by omega)]
  simp only [Bool.and_eq_true, decide_eq_true_eq]
  omega
section
variable {K : PySem.W.Frag} {σ : L2.St} {H H' : Hp} {ta tb tc te : TE} {x y z v : V} {D : Ends} {tz tu : TS}
theorem ev_midS {l : List Nat} {i j : Nat} (h : Ev te σ H (.str (tx l))) (ha : Ev ta σ H (.int (i : Int))) (hb : Ev tb σ H (.int (j : Int))) (hz : l.length ≤ 100000) : Ev (tSl rSlS te (tPart ta) (tPart tb)) σ H (.str (tx ((l.drop i).take (j - i)))) := fun H1 e Q q =>
  h H1 e _ fun H2 e2 => ha H2 (e.trans e2) _ fun H3 e3 => ⟨(i : Int), rfl, hb H3 ((e.trans e2).trans e3) _ fun H4 e4 => ⟨(j : Int), rfl, tx l, rfl, by rw [tx_len]; exact sz_of hz, by
    rw [cutS_mid]
    exact q H4 ((e2.trans e3).trans e4)⟩⟩
theorem ev_fromS {l : List Nat} {i : Nat} (h : Ev te σ H (.str (tx l))) (ha : Ev ta σ H (.int (i : Int))) (hz : l.length ≤ 100000) : Ev (tSl rSlS te (tPart ta) tNoPart) σ H (.str (tx (l.drop i))) := fun H1 e Q q =>
  h H1 e _ fun H2 e2 => ha H2 (e.trans e2) _ fun H3 e3 => ⟨(i : Int), rfl, tx l, rfl, by rw [tx_len]; exact sz_of hz, by
    rw [cutS_from]
    exact q H3 (e2.trans e3)⟩
/-- signs.index(sign) -/
theorem ev_idxS {l : List Nat} {c : Nat} {tr : TA} (ho : Ev te σ H (.str (tx l))) (ha : EvA tr σ H [.str (tx [c])]) (h : c ∈ l) :
    Ev (tBM K "str" (fun x xs H Q => ∃ a b i rest, x = .str a ∧ xs = [.str b] ∧ Builtin.Str.occurrences a b 0 a.length 1 = i :: rest ∧ Q (.int (i : Nat)) H) te tr) σ H (.int ((l.idxOf c : Nat) : Int)) :=
  ev_bmS ho ha fun H1 _ Q q => by
    obtain ⟨rest, e⟩ := idx_occ h
    exact ⟨tx l, tx [c], _, rest, rfl, rfl, e, q H1 (Ex.refl _)⟩
/-- sep.join(a list of texts that stands) -/
theorem ev_joinL {sep : Str} {ys : List Str} {p : Addr} (ho : Ev te σ H (.str sep)) (hl : Ev tb σ H (.ref p)) (hs : SqL K H p (ys.map V.str)) (hz : (ys.map (·.length)).sum + ys.length * sep.length ≤ 16777216) :
    Ev (tBM K "str" (fun x xs H Q => ∃ a p, ∃ ys : List Str, x = .str a ∧ xs = [.ref p] ∧ (SqL K H p (ys.map V.str) ∨ SqT K H p (ys.map V.str)) ∧ (ys.map (·.length)).sum + ys.length * a.length ≤ 16777216 ∧ Q (.str (Txt.join a ys)) H) te (tCons tb tNil)) σ H (.str (Txt.join sep ys)) := fun H1 e Q q =>
  ho H1 e _ fun H2 e2 => ⟨rfl, hl H2 (e.trans e2) _ fun H3 e3 => ⟨sep, p, ys, rfl, rfl, .inl (ex_l ((e.trans e2).trans e3) hs), hz, q H3 (e2.trans e3)⟩⟩
theorem rv_niS {c : Nat} {l : List Nat} : RV (fun x y H Q => ∃ (c : Nat) (z : Str), x = .str ⟨#[c]⟩ ∧ y = .str z ∧ Q (.bl (!decide (c ∈ z.cps.toList))) H) (.str (tx [c])) (.str (tx l)) H (.bl (!decide (c ∈ l))) := fun H1 _ Q q =>
  ⟨c, tx l, rfl, rfl, by
    rw [tx_cps]
    exact q H1 (Ex.refl _)⟩
theorem rv_inS {c : Nat} {l : List Nat} : RV (fun x y H Q => ∃ (c : Nat) (z : Str), x = .str ⟨#[c]⟩ ∧ y = .str z ∧ Q (.bl (decide (c ∈ z.cps.toList))) H) (.str (tx [c])) (.str (tx l)) H (.bl (decide (c ∈ l))) := fun H1 _ Q q =>
  ⟨c, tx l, rfl, rfl, by
    rw [tx_cps]
    exact q H1 (Ex.refl _)⟩
/-- for x in range(0, n, c) -/
theorem q_for3 {tr : TA} {j n c : Nat} (h : EvA tr σ H [.int 0, .int (n : Int), .int (c : Int)]) (h1 : 1 ≤ c) (h2 : c ≤ 1000) (h3 : n ≤ 100000) (Pv : Nat → L2.St → Hp → Prop) (h0 : ∀ H1, Ex H H1 → Pv 0 σ H1)
    (hs : ∀ (i : Nat) σ' H', i < turns n c → Pv i σ' H' → tu { D with nx := Pv (i + 1), ct := Pv (i + 1), bk := tz D } (σ'.set j (some (.int ((i * c : Nat) : Int)))) H') (hd : ∀ σ' H', Pv (turns n c) σ' H' → tz D σ' H') :
    tSeq (tFor (iRng3 tr) (gName j) tu) tz D σ H :=
  h H (Ex.refl H) _ fun H1 e => ⟨0, (n : Int), (c : Int), turns n c, rfl, rgC_up h1 h2 h3, for_rangeC (D := { D with nx := tz D }) Pv (h0 H1 e) (fun i σ' H' hi p => by
    have e0 : (0 : Int) + (i : Int) * (c : Int) = ((i * c : Nat) : Int) := by rw [Int.natCast_mul]; omega
    show tu { D with nx := Pv (i + 1), ct := Pv (i + 1), bk := tz D } (σ'.set j (some (.int ((0 : Int) + (i : Int) * (c : Int))))) H'
    rw [e0]
    exact hs i σ' H' hi p) hd⟩
end
end SP
namespace SP
open PySem L2 Evl
section
variable {K : PySem.W.Frag} {σ : L2.St} {H H' : Hp} {t : TA} {D : Ends} {tz : TS}
/-- name.f = C(..) -/
theorem q_fldM {C p : Addr} {sp : Sp} {vs : List V} {E : XK} {f : Str} {i : Nat} (ha : EvA t σ H vs) (ho : σ[i]? = some (some (.ref p)))
    (k : ∀ H1 x dx, Ex H H1 → H1 x = none → H1 dx = none → dx ≠ x → sp (.ref x :: vs) (upd (upd H1 dx (.own x)) x (.ins C dx [])) (fun v H2 => v = .non ∧ ∃ C' dx' fs, H2 p = some (.ins C' dx' fs) ∧ Cls K C' ∧ NoAttr K C' f ∧ fs.length < 1000 ∧ tz D σ (upd H2 p (.ins C' dx' (putF f (.ref x) fs)))) E) :
    tSeq (sFld K (tVar i) (tMake C sp [] E t) f) tz D σ H :=
  er_mkr (Q := fun y H1 => tVar i σ H1 fun x H2 => ∃ a C dx fs, x = .ref a ∧ H2 a = some (.ins C dx fs) ∧ Cls K C ∧ NoAttr K C f ∧ fs.length < 1000 ∧ tz D σ (upd H2 a (.ins C dx (putF f y fs)))) ha fun H1 x dx e1 hx hd hn => by
    have e : (fun (v : V) (H2 : Hp) => v = .non ∧ ∃ C' dx' fs, H2 p = some (.ins C' dx' fs) ∧ Cls K C' ∧ NoAttr K C' f ∧ fs.length < 1000 ∧ tz D σ (upd H2 p (.ins C' dx' (putF f (.ref x) fs)))) =
        (fun (v : V) (H2 : Hp) => v = .non ∧ tVar i σ H2 fun z H2 => ∃ a C dx fs, z = .ref a ∧ H2 a = some (.ins C dx fs) ∧ Cls K C ∧ NoAttr K C f ∧ fs.length < 1000 ∧ tz D σ (upd H2 a (.ins C dx (putF f (.ref x) fs)))) := by
      funext v H2
      refine propext (and_congr Iff.rfl ⟨fun ⟨C', dx', fs, h1, h2, h3, h4, h5⟩ => ⟨.ref p, ho, p, C', dx', fs, rfl, h1, h2, h3, h4, h5⟩, fun ⟨w, hw, a, C', dx', fs, h0, h1, h2, h3, h4, h5⟩ => ?_⟩)
      rw [ho] at hw
      have hw := Option.some.inj (Option.some.inj hw)
      rw [← hw] at h0
      cases h0
      exact ⟨C', dx', fs, h1, h2, h3, h4, h5⟩
    have h := k H1 x dx e1 hx hd hn
    rw [e] at h
    exact h
end
end SP
namespace SP
open PySem L2 Evl
section
variable {K : PySem.W.Frag} {σ : L2.St} {H H' : Hp} {ta te : TE} {t : TA} {D : Ends} {tz : TS}
theorem s_retQ (h : te σ H D.rt) : tRet te D σ H := h
theorem q_asgQ {i : Nat} (h : te σ H (fun v H1 => tz D (σ.set i (some v)) H1)) : tSeq (tAsg te (gName i)) tz D σ H := h
theorem s_asgQ {i : Nat} (h : te σ H (fun v H1 => D.nx (σ.set i (some v)) H1)) : tAsg te (gName i) D σ H := h
theorem s_dropQ (h : te σ H (fun _ H1 => D.nx σ H1)) : tDrop te D σ H := h
theorem q_dropQ (h : te σ H (fun _ H1 => tz D σ H1)) : tSeq (tDrop te) tz D σ H := h
/-- a method's call whose receiver is told by its own reading -/
theorem er_of {C : Addr} {m : Str} {sp : Sp} {E : XK} {Q : VK} (h : ta σ H fun x H1 => ∃ a dx fs, x = .ref a ∧ H1 a = some (.ins C dx fs) ∧ fs.lookup m = none ∧ t σ H1 fun vs H2 => sp (x :: vs) H2 Q E) : tMeth C m sp [] E ta t σ H Q := by
  have e : (fun (x : V) (H1 : Hp) => ∃ a dx fs, x = .ref a ∧ H1 a = some (.ins C dx fs) ∧ fs.lookup m = none ∧ t σ H1 fun vs H2 => sp (x :: vs) H2 Q E) =
      (fun (x : V) (H1 : Hp) => ∃ a dx fs, x = .ref a ∧ H1 a = some (.ins C dx fs) ∧ fs.lookup m = none ∧ t σ H1 fun vs H2 => sp (x :: (vs ++ [])) H2 Q E) := by
    funext x H1
    simp only [List.append_nil]
  rw [e] at h
  exact h
end
end SP

set_option maxHeartbeats 4000000
namespace SP
open PySem L2 Evl
/-! blocks -/
theorem LS.wait {B : Bk} : ∀ (cs : List Nat) (s : LS), s.ws.length + cs.length < B.size → s.steps B cs = ⟨s.ns, s.ws ++ cs⟩
  | [], s, _ => by
    show s = ⟨s.ns, s.ws ++ []⟩
    rw [List.append_nil]
  | c :: cs, s, h => by
    rw [List.length_cons] at h
    show (s.step B c).steps B cs = _
    have e : s.step B c = ⟨s.ns, s.ws ++ [c]⟩ := by
      unfold LS.step
      rw [if_neg (by rw [List.length_append, List.length_singleton]; omega)]
    rw [e, LS.wait cs _ (by show (s.ws ++ [c]).length + _ < _; rw [List.length_append, List.length_singleton]; omega)]
    show LS.mk s.ns (s.ws ++ [c] ++ cs) = _
    rw [List.append_assoc]
    rfl
theorem LS.full {B : Bk} {cs : List Nat} {s : LS} (hne : cs ≠ []) (h : s.ws.length + cs.length = B.size) : s.steps B cs = ⟨learntF B.cap s.ns (countsOf B.ss (s.ws ++ cs)), []⟩ := by
  obtain ⟨ds, c, rfl⟩ : ∃ ds c, cs = ds ++ [c] := ⟨cs.dropLast, cs.getLast hne, (List.dropLast_concat_getLast hne).symm⟩
  rw [List.length_append, List.length_singleton] at h
  rw [LS.steps_snoc, LS.wait ds s (by omega)]
  unfold LS.step
  rw [if_pos (by show (s.ws ++ ds ++ [c]).length = B.size; rw [List.length_append, List.length_append, List.length_singleton]; omega)]
  show LS.mk (learntF B.cap s.ns (countsOf B.ss (s.ws ++ ds ++ [c]))) [] = _
  rw [List.append_assoc]
theorem packL_block {B : Bk} : ∀ (cs : List Nat) (s : LS), s.ws.length + cs.length ≤ B.size → packL B s cs = cs.map (code1 B s)
  | [], _, _ => rfl
  | c :: cs, s, h => by
    rw [List.length_cons] at h
    show code1 B s c :: packL B (s.step B c) cs = code1 B s c :: cs.map (code1 B s)
    by_cases hc : cs = []
    · subst hc
      rfl
    · have hl : 0 < cs.length := List.length_pos_iff.mpr hc
      have e : s.step B c = ⟨s.ns, s.ws ++ [c]⟩ := by
        unfold LS.step
        rw [if_neg (by rw [List.length_append, List.length_singleton]; omega)]
      rw [e, packL_block cs _ (by show (s.ws ++ [c]).length + _ ≤ _; rw [List.length_append, List.length_singleton]; omega)]
      rfl
theorem take_block (ts : List Nat) (i z : Nat) : ts.take ((i + 1) * z) = ts.take (i * z) ++ (ts.drop (i * z)).take z := by
  rw [Nat.add_mul, Nat.one_mul, List.take_add]
theorem waits_at {B : Bk} (hB : BookOk B) (ts : List Nat) : ∀ i : Nat, i * B.size ≤ ts.length → ((LS.start B).steps B (ts.take (i * B.size))).ws = []
  | 0, _ => by
    rw [Nat.zero_mul]
    rfl
  | i + 1, h => by
    rw [Nat.add_mul, Nat.one_mul] at h
    have ih := waits_at hB ts i (by omega)
    have hz := hB.2.1
    have hl : ((ts.drop (i * B.size)).take B.size).length = B.size := by
      rw [List.length_take, List.length_drop]
      omega
    rw [take_block, LS.steps_app, LS.full (by intro z; rw [z] at hl; simp at hl; omega) (by rw [ih, hl]; simp)]
/-- the shares behind a full block -/
theorem shares_next {B : Bk} (hB : BookOk B) {ts : List Nat} {i : Nat} (h : (i + 1) * B.size ≤ ts.length) :
    ((LS.start B).steps B (ts.take ((i + 1) * B.size))).ns = learntF B.cap ((LS.start B).steps B (ts.take (i * B.size))).ns (countsOf B.ss ((ts.drop (i * B.size)).take B.size)) := by
  have h' := h
  rw [Nat.add_mul, Nat.one_mul] at h'
  have hw := waits_at hB ts i (by omega)
  have hz := hB.2.1
  have hl : ((ts.drop (i * B.size)).take B.size).length = B.size := by
    rw [List.length_take, List.length_drop]
    omega
  rw [take_block, LS.steps_app, LS.full (by intro z; rw [z] at hl; simp at hl; omega) (by rw [hw, hl]; simp), hw]
  rfl
theorem turns_lt {n c i : Nat} (hc : 1 ≤ c) : i < turns n c ↔ i * c < n := by
  unfold turns
  by_cases hn : 0 < n
  · rw [if_pos hn, Nat.lt_succ_iff, Nat.le_div_iff_mul_le (by omega)]
    omega
  · rw [if_neg hn]
    omega
theorem turns_end {n c : Nat} (hc : 1 ≤ c) : n ≤ turns n c * c := by
  have := (turns_lt (n := n) (i := turns n c) hc)
  omega
theorem turns_le {n c : Nat} : turns n c ≤ n := by
  unfold turns
  split
  · have := Nat.div_le_self (n - 1) c
    omega
  · omega
section
variable {K : PySem.W.Frag} {σ : L2.St} {H H' : Hp} {ta tb tc te : TE} {x y z v : V} {D : Ends} {tz tu : TS}
theorem ev_cal3L {sp : Sp} {E : XK} {ys : List V} (ha : Ev ta σ H x) (hb : EvL tb σ H ys) (hc : Ev tc σ H z) (hs : ∀ r H1, Ex H H1 → H1 r = some (.lst ys) → SpV sp [x, .ref r, z] H1 v) : Ev (tCall sp [] E (tCons ta (tCons tb (tCons tc tNil)))) σ H v := fun H1 e Q q =>
  ha H1 e _ fun H2 e2 => hb H2 (e.trans e2) _ fun r H3 _ e3 h3 => hc H3 ((e.trans e2).trans e3) _ fun H4 e4 => hs r H4 (((e.trans e2).trans e3).trans e4) (e4 _ _ h3) H4 (Ex.refl H4) Q (fun H5 e5 => q H5 (((e2.trans e3).trans e4).trans e5)) E
def rMin2 : List V → Hp → VK → Prop := fun xs H Q => ∃ i j, xs = [.int i, .int j] ∧ Q (.int (if j < i then j else i)) H
theorem ev_min2 {i j : Int} (ha : Ev ta σ H (.int i)) (hb : Ev tb σ H (.int j)) : Ev (tCB rMin2 (tCons ta (tCons tb tNil))) σ H (.int (if j < i then j else i)) := fun H1 e Q q =>
  ha H1 e _ fun H2 e2 => hb H2 (e.trans e2) _ fun H3 e3 => ⟨i, j, rfl, q H3 (e2.trans e3)⟩
theorem ev_lenU {p : Addr} {xs : List V} (ha : Ev ta σ H (.ref p)) (h : SqT K H p xs) : Ev (tCB (rLenS K) (tCons ta tNil)) σ H (.int (xs.length : Int)) := ev_lenT ha h
/-- the first n of a list, in another list -/
theorem el_firstS {tl : TE} {l : List Nat} {n : Nat} (h : Ev te σ H (.str (tx l))) (hn : Ev tl σ H (.int (n : Int))) (hz : l.length ≤ 100000) : Ev (tSl rSlS te tNoPart (tPart tl)) σ H (.str (tx (l.take n))) := ev_toS h hn hz
end
end SP

set_option maxHeartbeats 4000000
namespace SP
open PySem L2 Evl
/-! defs that may raise -/
/-- an own class of refusal, over ValueError, without __init__ -/
structure Err (K : PySem.W.Frag) (mg : Str → Option Value) (c : Str) : Prop where
  mc : mg c = some (.ref (cadr mg c))
  xi : PySem.W.excIn K (cadr mg c) [.type "ValueError", .type "Exception", .type "BaseException", .type "object"] "ValueError.__new__" = true
  kp : PySem.W.keepIn K (.ref (cadr mg c)) = true
  sb : PySem.W.subIn K (.ref (cadr mg c)) (.type "BaseException") = some true
  ty : PySem.W.typeIn K (.ref (cadr mg c)) = some (.type "type")
structure CalX (P : Program) (w : World) (K : PySem.W.Frag) (mg : Str → Option Value) (base : Heap) (x : Str) (ps : List Str) (k : Nat) (sp : Sp) : Prop where
  ex : ∃ f fd, FnOk P w K mg base (L2.CX P w) k f fd ps sp ∧ mg x = some (.ref f) ∧ PySem.W.keepIn K (.ref f) = true ∧ Binds K fd ps []
structure MetX (P : Program) (w : World) (K : PySem.W.Frag) (mg : Str → Option Value) (base : Heap) (c m : Str) (ps : List Str) (k : Nat) (sp : Sp) : Prop where
  ex : ∃ f fd, Cls K (cadr mg c) ∧ Meth K (cadr mg c) m f ∧ FnOk P w K mg base (L2.CX P w) k f fd ps sp ∧ Binds K fd ps []
structure MkrX (P : Program) (w : World) (K : PySem.W.Frag) (mg : Str → Option Value) (base : Heap) (c : Str) (ps : List Str) (k : Nat) (sp : Sp) : Prop where
  ex : ∃ f fd, Mk K (cadr mg c) f ∧ FnOk P w K mg base (L2.CX P w) k f fd ps sp ∧ mg c = some (.ref (cadr mg c)) ∧ Binds K fd ps []
section
variable {X : Cx} {x c m : Str} {ps : List Str} {k k' : Nat} {sp : Sp} {p pos apos p2 pos2 : Pos} {e o : Expr} {es : List Expr} {t : TA} {ta : TE} {E : XK} {j : Nat}
theorem ps_err {W : WX} (D : Err X.K X.mg c) (hc : X.calm = true) (tk : Takes X W) (hg : Gl X c) (hdb : (c == ("__debug__" : Str)) = false := by decide) :
    PS X (.Raise (some (.Call (.Name c p) [.Constant (.str m) j p2] [] pos)) none pos2) (fun _ σ H => W (.ref (cadr X.mg c)) none σ H) :=
  ps_raise hc tk (pmk_own PySem.F.excBase_ValueError D.xi D.mc D.kp (raises_own D.sb D.ty) hg hdb)
theorem pe_calX (C : CalX X.prog X.w X.K X.mg X.base x ps k sp) (hx : Passes (L2.CX X.prog X.w) X E) (hr : Room k' X.A) (hk : k ≤ k') (hg : Gl X x) (ha : PA X (e :: es) t)
    (hdb : (x == ("__debug__" : Str)) = false := by decide) (he : starEach (e :: es) X.env = (false, eval e X.env) :: starEach es X.env := by rfl) (hpl : (backTo pos (starEach es X.env)).any (·.1) = false := by rfl) :
    PE X (.Call (.Name x p) (e :: es) [] pos) (tCall sp [] E t) := by
  obtain ⟨f, fd, G, m, kp, b⟩ := C.ex
  exact pe_call G (hr.mono hk) hg m kp b .nil hx ha hdb he hpl
theorem pe_calS {ES : St → XK} (C : CalX X.prog X.w X.K X.mg X.base x ps k sp) (hx : ∀ σ, PassesAt (L2.CX X.prog X.w) X σ (ES σ)) (hr : Room k' X.A) (hk : k ≤ k') (hg : Gl X x) (ha : PA X (e :: es) t)
    (hdb : (x == ("__debug__" : Str)) = false := by decide) (he : starEach (e :: es) X.env = (false, eval e X.env) :: starEach es X.env := by rfl) (hpl : (backTo pos (starEach es X.env)).any (·.1) = false := by rfl) :
    PE X (.Call (.Name x p) (e :: es) [] pos) (tCallS sp ES t) := by
  obtain ⟨f, fd, G, m, kp, b⟩ := C.ex
  exact pe_callS G (hr.mono hk) hg m kp b hx ha hdb he hpl
theorem pe_metX {pl : Sem Bool} (C : MetX X.prog X.w X.K X.mg X.base c m ps k sp) (hx : Passes (L2.CX X.prog X.w) X E) (hr : Room k' X.A) (hk : k ≤ k') (he : PE X o ta) (ha : PA X (e :: es) t)
    (hst : starEach (e :: es) X.env = (false, eval e X.env) :: starEach es X.env := by rfl) (hpl : (backTo pos (starEach es X.env)).any (·.1) = false := by rfl)
    (ht : eval (.Call (.Attribute o m apos) (e :: es) [] pos) X.env = (do
      let ov ← eval o X.env
      standAt apos.atName
      let (f, first) ← holding [ov] (getMethod ov m pl)
      callWith pos f first (backTo pos (starEach (e :: es) X.env)) (backToKw pos (keywordEach [] X.env))) := by rfl) :
    PE X (.Call (.Attribute o m apos) (e :: es) [] pos) (tMeth (cadr X.mg c) m sp [] E ta t) := by
  obtain ⟨f, fd, hc, hm, F, b⟩ := C.ex
  exact pe_meth (pl := pl) he hc hm F (hr.mono hk) b .nil hx ha hst hpl ht
theorem pe_mkrX (C : MkrX X.prog X.w X.K X.mg X.base x ps k sp) (hx : Passes (L2.CX X.prog X.w) X E) (hr : Room k' X.A) (hk : k + 1 ≤ k') (hg : Gl X x) (ha : PA X (e :: es) t)
    (hdb : (x == ("__debug__" : Str)) = false := by decide) (he : starEach (e :: es) X.env = (false, eval e X.env) :: starEach es X.env := by rfl) (hpl : (backTo pos (starEach es X.env)).any (·.1) = false := by rfl) :
    PE X (.Call (.Name x p) (e :: es) [] pos) (tMake (cadr X.mg x) sp [] E t) := by
  obtain ⟨f, fd, M, F, hm, b⟩ := C.ex
  exact pe_make M F (hr.mono hk) hg hm b .nil hx ha hdb he hpl
/-- what a callee lets out leaves this def as well -/
theorem pass_on (hs : X.stack = X.env :: X.outer) (hf : X.env.frame = some X.env.locals) (hex : X.ex = []) {E₁ : Value → Shared → Prop}
    (hx : X.xe = fun e s' => wpAny (model X.prog X.w) X.A (leaving X.env e) (fun _ s'' => L2.CX X.prog X.w X.outer X.H_0 X.s_0 E e s'') E₁ s') : Passes (L2.CX X.prog X.w) X E :=
  passes_call (takes_of hs hf hex hx) fun _ _ _ _ h => h
end
/-! attributes as targets -/
section
variable {X : Cx} {o : Expr} {f : Str} {ta : TE} {pos : Pos}
def gFld (K : PySem.W.Frag) (ta : TE) (f : Str) : TG := fun v σ H Q => ta σ H fun x H2 => ∃ a C dx fs, x = .ref a ∧ H2 a = some (.ins C dx fs) ∧ Cls K C ∧ NoAttr K C f ∧ fs.length < 1000 ∧ Q σ (upd H2 a (.ins C dx (putF f v fs)))
theorem pg_fld (ho : PE X o ta) : PG X (.Attribute o f pos) (gFld X.K ta f) := by
  refine ⟨fun pins s σ H v u Q I r h => ?_⟩
  rw [PySem.assign_Attribute]
  refine wpAny_bind (wpAny_holding (thn (ho.run pins s σ H _ I h) fun ov s1 ⟨x, H1, I1, r1, a, C, dx, fs, ex, ea, c, n, l, q⟩ => ?_))
  subst ex
  obtain rfl : ov = Value.ref a := r1
  refine wpAny_bind (wpAny_standAt (wpAny_bind (wpAny_holding (setattr_ok I1 ea c n l r fun s2 I2 => ?_))))
  exact wpAny_release ⟨σ, _, I2, q⟩
end
section
variable {K : PySem.W.Frag} {σ : L2.St} {H H' : Hp} {ta : TE} {p C dx : Addr} {fs : List (Str × V)} {f : Str} {v : V}
theorem g_fld {Q : L2.St → Hp → Prop} (ho : Ev ta σ H (.ref p)) (hp : H p = some (.ins C dx fs)) (c : Cls K C) (n : NoAttr K C f) (hl : fs.length < 1000) (k : ∀ H1, Ex H H1 → Q σ (upd H1 p (.ins C dx (putF f v fs)))) : gFld K ta f v σ H Q :=
  ho H (Ex.refl H) _ fun H1 e1 => ⟨p, C, dx, fs, rfl, e1 _ _ hp, c, n, hl, k H1 e1⟩
theorem q_asgU {te : TE} {g : TG} {tz : TS} {D : Ends} {xs : List V} (h : EvU te σ H xs) (k : ∀ q H1, H q = none → Ex H H1 → H1 q = some (.tup xs) → g (.ref q) σ H1 (tz D)) : tSeq (tAsg te g) tz D σ H := h H (Ex.refl H) _ k
end
/-- an answer or a refusal -/
inductive Out where
  | ok (v : V)
  | bad (c : Str)
/-- whatever comes beside, the def ends so -/
def RetX (mg : Str → Option Value) (o : Out) (H : Hp) (Q : VK) (E : XK) : Prop := ∀ H', Ex H H' → match o with
  | .ok v => Q v H'
  | .bad c => E (.ref (cadr mg c)) none H'
theorem RetX.ok {mg : Str → Option Value} {v : V} {H : Hp} {Q : VK} {E : XK} (h : RetX mg (.ok v) H Q E) {H' : Hp} (e : Ex H H') : Q v H' := h H' e
theorem RetX.bad {mg : Str → Option Value} {c : Str} {H : Hp} {Q : VK} {E : XK} (h : RetX mg (.bad c) H Q E) {H' : Hp} (e : Ex H H') : E (.ref (cadr mg c)) none H' := h H' e
end SP

set_option maxHeartbeats 4000000
namespace SP
open PySem L2 Evl
/-! unpacking: from what is learnt, the signs left, the way, the bits ahead; the signs known, and where that ends -/
inductive Fol (B : Bk) : LS → Nat → List Nat → List Nat → List Nat → LS → Nat → List Nat → List Nat → Prop
  | done {s : LS} {w r : List Nat} : Fol B s 0 w r [] s 0 w r
  | arrive {s : LS} {n : Nat} {w r : List Nat} {c : Nat} {kn : List Nat} {s' : LS} {n' : Nat} {w' r' : List Nat} : c ∈ B.ss → code1 B s c = w → Fol B (s.step B c) n [] r kn s' n' w' r' → Fol B s (n + 1) w r (c :: kn) s' n' w' r'
  | bit {s : LS} {n : Nat} {w r : List Nat} {b : Nat} {kn : List Nat} {s' : LS} {n' : Nat} {w' r' : List Nat} : w ∉ HF.codes s.ns → Fol B s (n + 1) (w ++ [b]) r kn s' n' w' r' → Fol B s (n + 1) w (b :: r) kn s' n' w' r'
  | stuck {s : LS} {n : Nat} {w : List Nat} : w ∉ HF.codes s.ns → Fol B s (n + 1) w [] [] s (n + 1) w []
theorem code_ne {B : Bk} {s : LS} {c : Nat} (hs : s.Ok B) (hc : c ∈ B.ss) {w v : List Nat} {b : Nat} (h : code1 B s c = w ++ b :: v) : w ∉ HF.codes s.ns := fun hw => by
  obtain ⟨j, hj⟩ := List.mem_iff_getElem?.mp hw
  have hk := code1_get hs hc
  rw [h] at hk
  have e := HF.code_apart hs.sh.1 hj hk
  rw [e, hk] at hj
  have := congrArg List.length (Option.some.inj hj)
  simp at this
theorem code_idx {B : Bk} {s : LS} {c : Nat} (hs : s.Ok B) (hc : c ∈ B.ss) {j : Nat} (h : (HF.codes s.ns)[j]? = some (code1 B s c)) : j = B.ss.idxOf c := by
  have hk := code1_get hs hc
  exact HF.code_apart (v := []) hs.sh.1 h (by rw [List.append_nil]; exact hk)
theorem code_inj {B : Bk} {s : LS} {c d : Nat} (hs : s.Ok B) (hc : c ∈ B.ss) (hd : d ∈ B.ss) (h : code1 B s c = code1 B s d) : c = d := by
  have hk := code1_get hs hc
  rw [h] at hk
  have e := code_idx hs hd hk
  have h1 := idx_at hc
  rw [e, idx_at hd] at h1
  exact (Option.some.inj h1).symm
theorem code_mem {B : Bk} {s : LS} {c : Nat} (hs : s.Ok B) (hc : c ∈ B.ss) : code1 B s c ∈ HF.codes s.ns := List.mem_of_getElem? (code1_get hs hc)
theorem Fol.code {B : Bk} {s : LS} {c : Nat} (hs : s.Ok B) (hc : c ∈ B.ss) {n : Nat} {rest kn : List Nat} {s' : LS} {n' : Nat} {w' r' : List Nat} (h : Fol B (s.step B c) n [] rest kn s' n' w' r') :
    ∀ (v w : List Nat), code1 B s c = w ++ v → Fol B s (n + 1) w (v ++ rest) (c :: kn) s' n' w' r'
  | [], w, e => by
    rw [List.append_nil] at e
    exact .arrive hc e h
  | b :: v, w, e => .bit (code_ne hs hc e) (Fol.code hs hc h v (w ++ [b]) (by rw [e, List.append_assoc]; rfl))
theorem Fol.text {B : Bk} (hB : BookOk B) {n : Nat} {rest kn : List Nat} {s' : LS} {n' : Nat} {w' r' : List Nat} : ∀ (ts : List Nat) (s : LS), s.Ok B → (∀ c ∈ ts, c ∈ B.ss) → Fol B (s.steps B ts) n [] rest kn s' n' w' r' → Fol B s (n + ts.length) [] (packF B s ts ++ rest) (ts ++ kn) s' n' w' r'
  | [], _, _, _, h => h
  | c :: ts, s, hs, hm, h => by
    have hc := hm c List.mem_cons_self
    rw [packF_cons, List.append_assoc]
    exact Fol.code hs hc (Fol.text hB ts (s.step B c) (LS.step_ok hB hs) (fun d hd => hm d (List.mem_cons_of_mem _ hd)) h) (code1 B s c) [] rfl
theorem Fol.whole {B : Bk} (hB : BookOk B) {s : LS} (hs : s.Ok B) {ts : List Nat} (hm : ∀ c ∈ ts, c ∈ B.ss) (v : List Nat) : Fol B s ts.length [] (packF B s ts ++ v) ts (s.steps B ts) 0 [] v := by
  have := Fol.text hB (n := 0) (rest := v) (kn := []) ts s hs hm .done
  rwa [List.append_nil, Nat.zero_add] at this
theorem Fol.fun {B : Bk} (hB : BookOk B) {s : LS} {n : Nat} {w r kn : List Nat} {s' : LS} {n' : Nat} {w' r' : List Nat} (h : Fol B s n w r kn s' n' w' r') : ∀ {kn2 : List Nat} {s2 : LS} {n2 : Nat} {w2 r2 : List Nat}, s.Ok B → Fol B s n w r kn2 s2 n2 w2 r2 → kn = kn2 ∧ s' = s2 ∧ n' = n2 ∧ w' = w2 ∧ r' = r2 := by
  induction h with
  | done =>
    intro kn2 s2 n2 w2 r2 hs g
    cases g
    exact ⟨rfl, rfl, rfl, rfl, rfl⟩
  | arrive hc e _ ih =>
    intro kn2 s2 n2 w2 r2 hs g
    cases g with
    | arrive hc' e' g =>
      have := code_inj hs hc hc' (e.trans e'.symm)
      subst this
      obtain ⟨h1, h2⟩ := ih (LS.step_ok hB hs) g
      exact ⟨by rw [h1], h2⟩
    | bit hw _ => exact absurd (e ▸ code_mem hs hc) hw
    | stuck hw => exact absurd (e ▸ code_mem hs hc) hw
  | bit hw _ ih =>
    intro kn2 s2 n2 w2 r2 hs g
    cases g with
    | arrive hc' e' g => exact absurd (e' ▸ code_mem hs hc') hw
    | bit _ g => exact ih hs g
  | stuck hw =>
    intro kn2 s2 n2 w2 r2 hs g
    cases g with
    | arrive hc' e' g => exact absurd (e' ▸ code_mem hs hc') hw
    | stuck _ => exact ⟨rfl, rfl, rfl, rfl, rfl⟩
theorem Fol.ok {B : Bk} (hB : BookOk B) {s : LS} {n : Nat} {w r kn : List Nat} {s' : LS} {n' : Nat} {w' r' : List Nat} (h : Fol B s n w r kn s' n' w' r') : s.Ok B → s' = s.steps B kn ∧ s'.Ok B ∧ kn.length + n' = n ∧ (∀ c ∈ kn, c ∈ B.ss) ∧ r'.length ≤ r.length ∧ w'.length ≤ w.length + r.length ∧ (∃ u, u ++ r' = r) := by
  induction h with
  | done => exact fun hs => ⟨rfl, hs, by simp, by simp, Nat.le_refl _, by omega, [], rfl⟩
  | arrive hc e _ ih =>
    intro hs
    obtain ⟨h1, h2, h3, h4, h5, h6, h7⟩ := ih (LS.step_ok hB hs)
    refine ⟨h1, h2, by rw [List.length_cons]; omega, fun d hd => ?_, h5, by simp at h6; omega, h7⟩
    rcases List.mem_cons.mp hd with z | hd
    · rw [z]; exact hc
    · exact h4 d hd
  | bit hw _ ih =>
    intro hs
    obtain ⟨h1, h2, h3, h4, h5, h6, u, h7⟩ := ih hs
    refine ⟨h1, h2, h3, h4, by rw [List.length_cons]; omega, by rw [List.length_append] at h6; simp at h6 ⊢; omega, _ :: u, by rw [List.cons_append, h7]⟩
  | stuck hw => exact fun hs => ⟨rfl, hs, by simp, by simp, Nat.le_refl _, by simp, [], rfl⟩
/-- texts of one length whose bits begin one another are the same -/
theorem pack_apart {B : Bk} (hB : BookOk B) {s : LS} (hs : s.Ok B) {ts us : List Nat} (h1 : ∀ c ∈ ts, c ∈ B.ss) (h2 : ∀ c ∈ us, c ∈ B.ss) (hl : ts.length = us.length) {v : List Nat} (h : packF B s ts = packF B s us ++ v) : ts = us := by
  have a := Fol.whole hB hs h1 []
  have b := Fol.whole hB hs h2 v
  rw [List.append_nil, h, hl] at a
  exact (Fol.fun hB a hs b).1
theorem eqV_tx {a b : List Nat} : eqV (.str (tx a)) (.str (tx b)) = decide (a = b) := by
  show (tx a == tx b) = decide (a = b)
  by_cases e : a = b
  · rw [decide_eq_true e, e]
    simp
  · rw [decide_eq_false e]
    exact beq_eq_false_iff_ne.mpr fun z => e (tx_inj z)
theorem inV_wv {D : HF.Wd} {w : List Nat} : inV (.str (tx w)) (wv D) = decide (w ∈ D) := by
  unfold inV wv
  rw [List.any_map, Bool.eq_iff_iff, List.any_eq_true, decide_eq_true_eq]
  constructor
  · rintro ⟨x, hx, he⟩
    have h1 : tx x = tx w := eq_of_beq (show (tx x == tx w) = true from he)
    rw [← tx_inj h1]
    exact hx
  · intro h
    exact ⟨w, h, show (tx w == tx w) = true by simp⟩
theorem wv_flat (D : HF.Wd) : (wv D).all flatV = true := by
  unfold wv
  rw [List.all_map, List.all_eq_true]
  intro x _
  rfl
section
variable {K : PySem.W.Frag} {σ : L2.St} {H H' : Hp} {ta tb tc te : TE} {x y z v : V} {D : Ends} {tz tu : TS}
theorem rv_inW {p : Addr} {W : HF.Wd} {w : List Nat} (h : SqL K H p (wv W)) : RV (rIn K false) (.str (tx w)) (.ref p) H (.bl (decide (w ∈ W))) := by
  have := rv_isL (K := K) (x := .str (tx w)) h rfl (wv_flat W)
  rw [inV_wv] at this
  exact this
/-- words.index(way) -/
theorem ev_idxW {p : Addr} {W : HF.Wd} {w : List Nat} {j : Nat} {tr : TA} (ho : Ev te σ H (.ref p)) (ha : EvA tr σ H [.str (tx w)]) (h : SqL K H p (wv W)) (hj : W[j]? = some w) (hno : ∀ m z, m < j → W[m]? = some z → z ≠ w) :
    Ev (tBM K "list" (rIndex K) te tr) σ H (.int ((j : Nat) : Int)) := fun H1 e Q q =>
  ho H1 e _ fun H2 e2 => ⟨Or.inl ⟨rfl, _, ex_l (e.trans e2) h⟩, ha H2 (e.trans e2) _ fun H3 e3 => ⟨p, wv W, .str (tx w), j, .str (tx w), rfl, rfl, ex_l ((e.trans e2).trans e3) h, rfl, wv_flat W, by unfold wv; rw [List.getElem?_map, hj]; rfl, by rw [eqV_tx]; exact decide_eq_true rfl, fun m z' hm hz => by
    unfold wv at hz
    rw [List.getElem?_map] at hz
    cases hw : W[m]? with
    | none => rw [hw] at hz; cases hz
    | some z =>
      rw [hw] at hz
      cases hz
      rw [eqV_tx]
      exact decide_eq_false (hno m z hm hw), q H3 (e2.trans e3)⟩⟩
/-- a, b, c = x, y, z -/
theorem q_par3 {i j l : Nat} {tr : TA} (h : EvA tr σ H [x, y, z]) (k : ∀ H1, Ex H H1 → tz D (((σ.set i (some x)).set j (some y)).set l (some z)) H1) : tSeq (tPar3 i j l tr) tz D σ H :=
  h H (Ex.refl H) _ fun H1 e1 => ⟨x, y, z, rfl, k H1 e1⟩
theorem ev_ixS1 {l : List Nat} {i c : Nat} (h : Ev ta σ H (.str (tx l))) (hi : Ev tb σ H (.int ((i : Nat) : Int))) (hc : l[i]? = some c) (hz : l.length ≤ 100000) : Ev (tOp rIxS ta tb) σ H (.str (tx [c])) :=
  ev_op h hi (rv_ixS (by rw [tx_len]; omega) (by
    rw [tx_cps]
    have := (List.getElem?_eq_some_iff.mp hc).1
    unfold atI
    have e : ixN l.length (i : Int) = some i := ixN_nat this
    rw [e]
    exact hc))
end
end SP

set_option maxHeartbeats 4000000
namespace SP
open PySem L2 Evl
section
variable {K : PySem.W.Frag} {σ : L2.St} {H H' : Hp} {ta te : TE} {z : V}
/-- a text's method without arguments -/
theorem ev_bm0S {r : V → List V → Hp → VK → Prop} {s : Str} (ho : Ev te σ H (.str s)) (hr : ∀ H1, Ex H H1 → ∀ Q : VK, (∀ H2, Ex H1 H2 → Q z H2) → r (.str s) [] H1 Q) : Ev (tBM0 K "str" r te) σ H z := fun H1 e Q q =>
  ho H1 e _ fun H2 e2 => ⟨rfl, hr H2 (e.trans e2) Q fun H3 e3 => q H3 (e2.trans e3)⟩
theorem q_part {g : TG} {tb : TE} {tz : TS} {D : Ends} {l : List Nat} (ho : Ev te σ H (.str (tx l))) (hs : Ev tb σ H (.str (tx [32]))) (hz : l.length ≤ 100000)
    (k : ∀ p H1, Ex H H1 → H1 p = some (.tup [.str (Txt.partition (tx l) (tx [32])).1, .str (Txt.partition (tx l) (tx [32])).2.1, .str (Txt.partition (tx l) (tx [32])).2.2]) → g (.ref p) σ H1 (tz D)) :
    tSeq (tAsg (tM1 (fun x xs H Q => ∃ a b, x = .str a ∧ xs = [.str b] ∧ (b.length == 0) = false ∧ a.length ≤ sizeLine ∧ ∀ p, H p = none → Q (.ref p) (upd H p (.tup [.str (Txt.partition a b).1, .str (Txt.partition a b).2.1, .str (Txt.partition a b).2.2]))) te tb) g) tz D σ H :=
  ho H (Ex.refl _) _ fun H1 e1 => ⟨⟨_, rfl⟩, hs H1 e1 _ fun H2 e2 => ⟨tx l, tx [32], rfl, rfl, rfl, sz_of (by rw [tx_len]; exact hz), fun p hp => k p _ ((e1.trans e2).trans (Ex.new hp)) upd_same⟩⟩
end
/-! partition at the first blank -/
theorem strSub_tx (l : List Nat) (i j : Nat) : Builtin.Str.strSub (tx l) i j = tx ((l.drop i).take (j - i)) := by
  unfold Builtin.Str.strSub tx
  simp [List.extract]
theorem idx_app {c : Nat} {cs bs : List Nat} (h : c ∉ cs) : (cs ++ c :: bs).idxOf c = cs.length := by
  induction cs with
  | nil => simp
  | cons a r ih =>
    have h1 : a ≠ c := fun z => h (by rw [z]; simp)
    have h2 := ih (fun z => h (List.mem_cons_of_mem _ z))
    have h3 : (a == c) = false := by simpa using h1
    rw [List.cons_append, List.idxOf_cons, h2, h3]
    rfl
theorem part_in {cs bs : List Nat} (h : 32 ∉ cs) : Txt.partition (tx (cs ++ 32 :: bs)) (tx [32]) = (tx cs, tx [32], tx bs) := by
  obtain ⟨r, e⟩ := idx_occ (l := cs ++ 32 :: bs) (c := 32) (by simp)
  rw [idx_app h] at e
  unfold Txt.partition
  rw [e]
  show (Builtin.Str.strSub _ 0 cs.length, _, Builtin.Str.strSub _ (cs.length + (tx [32]).length) (tx (cs ++ 32 :: bs)).length) = _
  rw [strSub_tx, strSub_tx, tx_len, tx_len]
  congr 2
  · simp
  · congr 1
    simp
    exact List.take_of_length_le (by omega)
theorem part_no {l : List Nat} (h : 32 ∉ l) : Txt.partition (tx l) (tx [32]) = (tx l, tx [], tx []) := by
  unfold Txt.partition
  rcases StrLaws.occ_head (tx l) (tx [32]) 1 (Nat.le_refl _) with ⟨h0, hn⟩ | ⟨i, r, e, ha, hn⟩
  · rw [h0]
    rfl
  · have hi : l[i]? = some 32 := by
      have := (StrLaws.subAt_one (tx l) 32 i).mp ha
      rwa [tx_cps] at this
    exact absurd (List.mem_of_getElem? hi) h
/-- the figures of a count -/
def dg (n : Nat) : List Nat := (PySem.Str.ofString (toString (n : Int))).cps.toList
theorem dg_str (n : Nat) : PySem.Str.ofString (toString (n : Int)) = tx (dg n) := by
  unfold dg tx
  rw [Array.toArray_toList]
theorem strBl : PySem.Str.ofString " " = tx [32] := by decide +kernel
theorem lg_of {n : Nat} (h : n ≤ 100000) : ((n : Int)).natAbs.log2 < 1920 := by
  show Nat.log2 n < 1920
  by_cases h0 : n = 0
  · rw [h0]; decide
  · exact Nat.lt_of_lt_of_le ((Nat.log2_lt h0).mpr (Nat.lt_of_le_of_lt h (by decide : 100000 < 2 ^ 17))) (by decide)
/-- a count as a line has it -/
def isCt (cs : List Nat) : Bool := (Txt.isascii (tx cs) && Txt.isdigit (tx cs) && decide (cs.length ≤ 4)) && (decide (cs = [48]) || !Txt.startswith (tx cs) (tx [48]))
theorem start_eq (l : List Nat) : Txt.startswith (tx l) (tx [48]) = (l.head? == some 48) := by
  unfold Txt.startswith Builtin.Str.subAt
  cases l with
  | nil => rfl
  | cons c r =>
    have h : (tx (c :: r)).cps.extract 0 (0 + (tx [48]).length) = #[c] := by
      show (c :: r).toArray.extract 0 1 = #[c]
      simp
    rw [h]
    show ((decide (0 + 1 ≤ (c :: r).length)) && (#[c] == #[48])) = _
    by_cases e : c = 48
    · rw [e]; simp
    · have h1 : (#[c] == #[48]) = false := by
        rw [beq_eq_false_iff_ne]
        intro z
        have := congrArg Array.toList z
        simp at this
        exact e this
      rw [h1]
      simp [e]
theorem isCt_eq (l : List Nat) : isCt l = ((l.all (· < 128) && (decide (0 < l.length) && l.all Unicode.isDigit) && decide (l.length ≤ 4)) && (decide (l = [48]) || !(l.head? == some 48))) := by
  unfold isCt
  rw [start_eq]
  have h1 : Txt.isascii (tx l) = l.all (· < 128) := by
    unfold Txt.isascii tx
    simp
  have h2 : Txt.isdigit (tx l) = (decide (0 < l.length) && l.all Unicode.isDigit) := by
    unfold Txt.isdigit
    rw [tx_len]
    unfold tx
    simp
  rw [h1, h2]
theorem dig_uni : ∀ c : Fin 10, Unicode.isDigit (48 + c) = true := by decide +kernel
theorem dig_uni' {c : Nat} (h : 48 ≤ c ∧ c ≤ 57) : Unicode.isDigit c = true := by
  have := dig_uni ⟨c - 48, by omega⟩
  have e : 48 + (c - 48) = c := by omega
  simp only [e] at this
  exact this
theorem isCt_dig {l : List Nat} (h : ∀ c ∈ l, 48 ≤ c ∧ c ≤ 57) (h0 : l ≠ []) (h4 : l.length ≤ 4) (hs : l = [48] ∨ l.head? ≠ some 48) : isCt l = true := by
  rw [isCt_eq]
  have a1 : l.all (· < 128) = true := List.all_eq_true.mpr fun c hc => decide_eq_true (by have := h c hc; omega)
  have a2 : l.all Unicode.isDigit = true := List.all_eq_true.mpr fun c hc => dig_uni' (h c hc)
  have a3 : 0 < l.length := List.length_pos_iff.mpr h0
  rw [a1, a2, decide_eq_true a3, decide_eq_true h4]
  rcases hs with hs | hs
  · rw [decide_eq_true hs]; rfl
  · have : (l.head? == some 48) = false := by rw [beq_eq_false_iff_ne]; exact hs
    rw [this]; simp
/-- what is no count -/
theorem isCt_nil : isCt [] = false := by rw [isCt_eq]; rfl
theorem isCt_long {l : List Nat} (h : 4 < l.length) : isCt l = false := by
  rw [isCt_eq, decide_eq_false (p := l.length ≤ 4) (by omega)]
  simp
theorem isCt_lead {l : List Nat} (h : l ≠ []) : isCt (48 :: l) = false := by
  rw [isCt_eq]
  have : decide (48 :: l = [48]) = false := decide_eq_false (by simpa using h)
  rw [this]
  simp
theorem isCt_sign {l : List Nat} {c : Nat} (hc : c ∈ l) (h : Unicode.isDigit c = false) : isCt l = false := by
  rw [isCt_eq]
  have : l.all Unicode.isDigit = false := by
    rw [List.all_eq_false]
    exact ⟨c, hc, by rw [h]; simp⟩
  rw [this]
  simp
theorem dg_eq (n : Nat) : dg n = (Nat.toDigits 10 n).map Char.toNat := PySem.W.KIN.signs_num n
theorem dg_dig (n : Nat) : ∀ c ∈ dg n, 48 ≤ c ∧ c ≤ 57 := fun c hc => by
  rw [dg_eq] at hc
  obtain ⟨ch, hch, e⟩ := List.mem_map.mp hc
  have r := Nat.isDigit_of_mem_toDigits (by decide) (by decide) hch
  rw [← e]
  unfold Char.isDigit at r
  simp only [Bool.and_eq_true, decide_eq_true_eq] at r
  exact ⟨r.1, r.2⟩
theorem dg_ne (n : Nat) : dg n ≠ [] := fun h => by
  rw [dg_eq, List.map_eq_nil_iff] at h
  exact Nat.toDigits_ne_nil h
theorem dg_len4 {n : Nat} (h : n < 10000) : (dg n).length ≤ 4 := by
  rw [dg_eq, List.length_map]
  exact (Nat.length_toDigits_le_iff (by decide) (by decide)).mpr h
theorem dig_ch : ∀ n : Fin 10, (Nat.digitChar n).toNat = 48 + n := by decide
theorem dg_small {n : Nat} (h : n < 10) : dg n = [48 + n] := by
  rw [dg_eq, Nat.toDigits_of_lt_base h]
  show [(Nat.digitChar n).toNat] = _
  rw [dig_ch ⟨n, h⟩]
theorem dg_head (n : Nat) : n = 0 ∨ (dg n).head? ≠ some 48 := by
  induction n using Nat.strongRecOn with
  | _ n ih =>
    by_cases h : n < 10
    · by_cases h0 : n = 0
      · exact .inl h0
      · refine .inr ?_
        rw [dg_small h]
        simp
        omega
    · refine .inr ?_
      have t : dg n = dg (n / 10) ++ dg (n % 10) := by
        rw [dg_eq, dg_eq, dg_eq, ← List.map_append, Nat.toDigits_append_toDigits (by decide) (by omega) (Nat.mod_lt _ (by decide)), Nat.div_add_mod]
      rw [t]
      rcases ih (n / 10) (by omega) with h0 | h1
      · omega
      · cases e : dg (n / 10) with
        | nil => exact absurd e (dg_ne _)
        | cons c r => rw [e] at h1; exact h1
theorem dg_zero : dg 0 = [48] := dg_small (by decide)
theorem dg_isCt {n : Nat} (h : n < 10000) : isCt (dg n) = true := isCt_dig (dg_dig n) (dg_ne n) (dg_len4 h) ((dg_head n).imp (fun e => by rw [e]; exact dg_zero) id)
theorem dg_int {n : Nat} (h : n < 10000) : PySem.intText? (tx (dg n)) = some ((n : Nat) : Int) := by
  rw [← dg_str]
  exact PySem.W.KIN.num_reads (by omega) (by omega)
theorem dg_no32 (n : Nat) : 32 ∉ dg n := fun h => by have := dg_dig n 32 h; omega
theorem dg_len (n : Nat) (h : n < 10000) : (dg n).length ≤ 2000 := Nat.le_trans (dg_len4 h) (by decide)
/-! one sign, n times -/
theorem foldl_one (c : Nat) : ∀ (n : Nat) (l : List Nat), List.foldl (fun x1 x2 => x1 ++ x2) l.toArray (List.replicate n #[c]) = (l ++ List.replicate n c).toArray
  | 0, l => by simp
  | n + 1, l => by
    rw [List.replicate_succ, List.foldl_cons, List.replicate_succ]
    have : l.toArray ++ #[c] = (l ++ [c]).toArray := by simp
    rw [this, foldl_one c n, List.append_assoc]
    rfl
theorem mul_one (c n : Nat) : Txt.mul (tx [c]) (n : Int) = tx (List.replicate n c) := by
  unfold Txt.mul
  by_cases h0 : n = 0
  · rw [if_pos (by omega), h0]; rfl
  · rw [if_neg (by omega)]
    by_cases h1 : n = 1
    · subst h1; rfl
    · have : ((n : Int) == 1 || (tx [c]).length == 0) = false := by
        have e1 : ((n : Int) == 1) = false := beq_eq_false_iff_ne.mpr (by omega)
        rw [e1]; rfl
      rw [this, if_neg (by simp)]
      have f := foldl_one c n []
      rw [List.nil_append] at f
      rw [Int.toNat_natCast]
      exact congrArg Str.mk f
/-- one sign, n times -/
theorem op_repS {X : Cx} : OpR X (binaryOp .Mult) (fun x y H Q => ∃ c n : Nat, x = .str (tx [c]) ∧ y = .int (n : Int) ∧ n ≤ 100000 ∧ Q (.str (tx (List.replicate n c))) H) := by
  intro pins s σ H x y v u Q I rx ry h
  obtain ⟨c, n, rfl, rfl, hn, q⟩ := h
  obtain ⟨t, rfl⟩ := rx
  obtain ⟨t', rfl⟩ := ry
  refine SB.mul (PyProof.Rows.mulOk_of 16 1048576 (by rw [tx_len]; exact (by decide : 1 ≤ 16)) (by omega) (by omega) (by decide) (by decide)) fun t' k => ?_
  rw [mul_one]
  exact ⟨.str _, H, I.tok _, ⟨_, rfl⟩, q⟩
theorem ev_repS {σ : L2.St} {H : Hp} {ta tb : TE} {c n : Nat} (h : Ev ta σ H (.str (tx [c]))) (hn : Ev tb σ H (.int (n : Int))) (hz : n ≤ 100000) : Ev (tOp (fun x y H Q => ∃ c n : Nat, x = .str (tx [c]) ∧ y = .int (n : Int) ∧ n ≤ 100000 ∧ Q (.str (tx (List.replicate n c))) H) ta tb) σ H (.str (tx (List.replicate n c))) :=
  ev_op h hn fun H1 _ Q q => ⟨c, n, rfl, rfl, hz, q H1 (Ex.refl _)⟩
end SP

set_option maxHeartbeats 4000000
namespace SP
open PySem PySem.Spec PyProof.Rows L2 Evl
/-! several clauses that bind one name, defs called in a suite about what is held there -/
/-- what the clauses wish of an exception of the body, one after the other; slot i is the name's -/
def wManyAs (K : PySem.W.Frag) (i : Nat) (Wout : WX) (D : Ends) : List (Value × (Addr → Value → Option Addr → TS)) → WX
  | [] => Wout
  | (c, ts) :: r => fun cls d σ H => ∃ b, PySem.W.exmOne K cls c = some b ∧
      (b = true → ∀ a, H a = none → ts a cls d { nx := fun σ' H' => D.nx (σ'.set i none) H', rt := D.rt, bk := fun σ' H' => D.bk (σ'.set i none) H', ct := fun σ' H' => D.ct (σ'.set i none) H' } (σ.set i (some (.ref a))) H) ∧
      (b = false → wManyAs K i Wout D r cls d σ H)
inductive HdsAs (X : Cx) (n : Str) : List ExceptHandler → List (Value × (Addr → Value → Option Addr → TS)) → Prop
  | nil : HdsAs X n [] []
  | cons {x : Str} {c : Value} {ts : Addr → Value → Option Addr → TS} {b₀ : Stmt} {suite : List Stmt} {np pos' : Pos} {hds : List ExceptHandler} {l : List (Value × (Addr → Value → Option Addr → TS))} (hc : Names X x c)
      (hsu : ∀ (a : Addr) (oe : Obj) (cls : Value) (d : Option Addr) (pn : List (Addr × Obj)), Zc cls d oe → (∃ vs, oe.data = .fields vs) → PSs (X.suite a ((a, oe) :: pn)) (b₀ :: suite) (ts a cls d)) (r : HdsAs X n hds l) :
      HdsAs X n (.ExceptHandler (some (.Name x np)) (some n) (b₀ :: suite) pos' :: hds) ((c, ts) :: l)
/-- an exception lies at the try of X: sI is the state ahead of it, B what was kept -/
structure Down (X : Cx) (pins : List (Addr × Obj)) (σ : L2.St) (H : Hp) (a : Addr) (cls : Value) (d : Option Addr) (B : Heap) (sI s : Shared) : Prop where
  ground : Inv X pins σ H sI
  apart : ∀ b o, sI.heap.get? b = some o → b ∉ frs X.stack → B.get? b = some o
  lies : HandSPX.FlyingZ B (X.env :: X.outer) a (Zc cls d) s.heap
  slots : sI.heap.UpToSlots s.heap
  new : H a = none
  out : s.os = sI.os
  bare : AllBare s.gens
section
variable {X : Cx} {pins : List (Addr × Obj)} {σ : L2.St} {H : Hp} {a : Addr} {cls : Value} {d : Option Addr} {B : Heap} {sI s : Shared} {E : Value → Shared → Prop}
theorem Down.inv (z : Down X pins σ H a cls d B sI s) : Inv X pins σ H s := z.ground.landed z.apart z.lies.1 z.slots z.out z.bare
theorem Down.other (z : Down X pins σ H a cls d B sI s) : a ∉ frs (X.env :: X.outer) := fun hm => by
  obtain ⟨oe, vs, h1, _, h2⟩ := z.lies.there
  obtain ⟨_, o, h3, h4⟩ := z.lies.2.2.1.mem hm
  cases h1.symm.trans h3
  exact h4 _ h2
/-- the suite may be entered -/
theorem Down.suite (z : Down X pins σ H a cls d B sI s) (hf : X.env.frame = some X.env.locals) : ∃ oe, Zc cls d oe ∧ (∃ vs, oe.data = .fields vs) ∧ Inv (X.suite a ((a, oe) :: (X.pn ++ pins))) [] σ H s := by
  obtain ⟨oe, vs, h1, h2, h3⟩ := z.lies.there
  refine ⟨oe, h2, ⟨vs, h3⟩, z.inv.suite h1 h3 z.new (fun e => ?_) fun hm => ?_⟩
  · exact z.other (List.mem_filterMap.mpr ⟨_, List.mem_cons_self, hf.trans (congrArg some e.symm)⟩)
  · obtain ⟨v, hv, q⟩ := List.mem_filterMap.mp hm
    exact z.other (List.mem_filterMap.mpr ⟨v, List.mem_cons_of_mem _ hv, q⟩)
/-- its flight is set to none once more -/
theorem Down.again {M : Model} {A : Around} {Q : Unit → Shared → Prop} (z : Down X pins σ H a cls d B sI s) (h : ∀ s', Down X pins σ H a cls d B sI s' → Q () s') : wpAny M A (setFlight (.ref a) none) Q E s :=
  HandSPX.lands_againZ z.lies fun g l u => h _ ⟨z.ground, z.apart, l, z.slots.trans u, z.new, z.out, z.bare⟩
/-- no clause is left: it leaves the try -/
theorem Down.leaves {W : WX} {Q : Flow → Shared → Prop} (z : Down X pins σ H a cls d B sI s) (hs : X.stack = X.env :: X.outer) (hf : X.env.frame = some X.env.locals) (tk : Takes X W) (w : W cls d σ H) : wpAny (model X.prog X.w) X.A (handleBy (.ref a) X.env []) Q X.xe s := by
  have up : wpAny (model X.prog X.w) X.A (do setFlight (.ref a) X.env.frame; throw (.ref a) : Sem Flow) Q X.xe s := by
    rw [hf]
    exact wpAny_bind (HandSPX.setFlight_upZ z.lies fun g l u => wpAny_throw (tk _ _ ⟨a, B, sI, pins, σ, H, cls, d, rfl, z.ground, z.apart, z.slots.trans u, by rw [hs]; exact Or.inr (Or.inr l), z.new, z.out, z.bare, w⟩))
  obtain ⟨_, _, _, oe, vs, T, _, _, h1, _, h2, h3, _⟩ := id z.lies
  refine wpAny_handleBy_nil ?_
  unfold PySem.passOn
  refine wpAny_bind (wpAny_field h1 h2 h3 ?_)
  have ne : ¬ ((Value.ref T == Value.none) = true) := by simp
  rw [if_neg ne]
  first
  | exact up
  | exact wpAny_bind (wpAny_pure up)
/-- one clause: its class is asked; where it fits its suite is run, and the name is gone behind it -/
theorem Down.clause {x n : Str} {c : Value} {i : Nat} {ts : TS} {b₀ : Stmt} {suite : List Stmt} {np pos' : Pos} {rest : List ExceptHandler} {D : Ends} {b : Bool} (z : Down X pins σ H a cls d B sI s) (hf : X.env.frame = some X.env.locals)
    (hN : X.N.Nodup) (hi : X.N[i]? = some n) (hln : X.env.kindOf n = some .local) (hc : Names X x c) (hx : PySem.W.exmOne X.K cls c = some b)
    (hsu : ∀ (oe : Obj) (pn : List (Addr × Obj)), Zc cls d oe → (∃ vs, oe.data = .fields vs) → PSs (X.suite a ((a, oe) :: pn)) (b₀ :: suite) ts)
    (hyes : b = true → ts { nx := fun σ' H' => D.nx (σ'.set i none) H', rt := D.rt, bk := fun σ' H' => D.bk (σ'.set i none) H', ct := fun σ' H' => D.ct (σ'.set i none) H' } (σ.set i (some (.ref a))) H)
    (hno : b = false → wpAny (model X.prog X.w) X.A (handleBy (.ref a) X.env rest) (SP X pins D) X.xe s) :
    wpAny (model X.prog X.w) X.A (handleBy (.ref a) X.env (.ExceptHandler (some (.Name x np)) (some n) (b₀ :: suite) pos' :: rest)) (SP X pins D) X.xe s := by
  refine wpAny_handleBy_cons (codeAny_handlers_test ?_) (fun e => nomatch e)
  obtain ⟨oe, hz, _, S⟩ := z.suite hf
  have kind : PySem.W.Looks (model X.prog X.w) s.heap (typeOf (.ref a)) cls := fun A Q E g k q => by
    obtain ⟨o1, _, h1, h2, _⟩ := z.lies.there
    exact wpAny_typeOf_ref (k _ _ h1) (h2.1 ▸ q)
  have asked : ∀ {Q : Value → Shared → Prop} {F : Value → Shared → Prop}, Q c s → wpAny (model X.prog X.w) (X.A.mark (some (.ref a))) (eval (.Name x np) X.env) Q F s := fun {Q F} q =>
    hc.2.2.elim (fun m => ld_glob (X := X.suite a ((a, oe) :: (X.pn ++ pins))) S hc.1 m q hc.2.1) fun m => ld_blt (X := X.suite a ((a, oe) :: (X.pn ++ pins))) S hc.1 m.1 m.2.1 q m.2.2 hc.2.1
  refine asked ((PySem.W.exm_one z.inv.kIn kind hx).here ?_)
  cases b with
  | false => exact hno rfl
  | true =>
    refine codeAny_handlers_suite_as (z.again fun s1 z1 => ?_)
    obtain ⟨o1, k1, k2, S1⟩ := z1.suite hf
    refine store_ok (X := X.suite a ((a, o1) :: (X.pn ++ pins))) (v := .ref a) S1 hN hi (Or.inl hln) rfl (fun s2 S2 => ?_) (Or.inr hln)
    refine wpAny_mono ((hsu o1 _ k1 k2).run [] s2 _ H _ S2 (hyes rfl)) (fun f s3 h => ?_) fun _ _ e => e.elim
    have gone : ∀ {σ3 : L2.St} {H3 : Hp} {R : Shared → Prop}, Inv (X.suite a ((a, o1) :: (X.pn ++ pins))) [] σ3 H3 s3 → (∀ s4, Inv X pins (σ3.set i none) H3 s4 → R s4) →
        wpAny (model X.prog X.w) X.A (do bindName X.env n .none; unbindBehindTheSuite X.env n pos') (fun _ s4 => R s4) X.xe s3 := fun g r => gone_ok (g.unsuite z.ground.ok) hN hi hln r
    match f, h with
    | .next, ⟨_, _, g, q⟩ => exact gone g fun _ k => ⟨_, _, k, q⟩
    | .brk, ⟨_, _, g, q⟩ => exact gone g fun _ k => ⟨_, _, k, q⟩
    | .cont, ⟨_, _, g, q⟩ => exact gone g fun _ k => ⟨_, _, k, q⟩
    | .ret u, ⟨_, _, _, g, r, q⟩ => exact gone g fun _ k => ⟨_, _, _, k, r, q⟩
theorem HdsAs.all {n : Str} {i : Nat} {D : Ends} {W : WX} {hds : List ExceptHandler} {l : List (Value × (Addr → Value → Option Addr → TS))} (hh : HdsAs X n hds l) (z : Down X pins σ H a cls d B sI s) (hs : X.stack = X.env :: X.outer) (hf : X.env.frame = some X.env.locals)
    (hN : X.N.Nodup) (hi : X.N[i]? = some n) (hln : X.env.kindOf n = some .local) (tk : Takes X W) (w : wManyAs X.K i W D l cls d σ H) : wpAny (model X.prog X.w) X.A (handleBy (.ref a) X.env hds) (SP X pins D) X.xe s := by
  induction hh with
  | nil => exact z.leaves hs hf tk w
  | cons hc hsu _ ih =>
    obtain ⟨b, hx, yes, no⟩ := w
    exact z.clause hf hN hi hln hc hx (fun oe pn => hsu a oe cls d pn) (fun h => yes h a z.new) fun h => ih (no h)
end
section
variable {X : Cx} {n : Str} {i : Nat} {body : List Stmt} {h₀ : ExceptHandler} {hds : List ExceptHandler} {l : List (Value × (Addr → Value → Option Addr → TS))} {pos : Pos} {tb : WX → TS} {Wout : WX}
/-- what becomes of an exception e that comes out of the body -/
abbrev seen (X : Cx) (pins : List (Addr × Obj)) (D : Ends) (hds : List ExceptHandler) (e : Value) (s : Shared) : Prop :=
  wpAny (model X.prog X.w) X.A (noteFrame e X.env) (fun _ => wpAny (model X.prog X.w) X.A (setFlight e none) (fun _ => wpAny (model X.prog X.w) X.A (handleBy e X.env hds) (SP X pins D) X.xe) X.xe) X.xe s
theorem ps_try_manyAs (hs : X.stack = X.env :: X.outer) (hf : X.env.frame = some X.env.locals) (hN : X.N.Nodup) (hi : X.N[i]? = some n) (hln : X.env.kindOf n = some .local) (tk : Takes X Wout)
    (hb : ∀ (W : WX) (pn : List (Addr × Obj)) (xe : Value → Shared → Prop), Takes (X.tr pn xe) W → PassesOwn (model X.prog X.w) X.A X.env xe → PSs (X.tr pn xe) body (tb W))
    (hh : HdsAs X n (h₀ :: hds) l) : PS X (.Try body (h₀ :: hds) [] [] pos) (fun D σ H => tb (wManyAs X.K i Wout D l) D σ H) := by
  refine ⟨fun pins s σ H D I h => wpAny_Try_except ?_⟩
  have frames : X.A.frames = some (X.env :: X.outer) := I.ok.frames.trans (congrArg some hs)
  have rule := hb (wManyAs X.K i Wout D l) (X.pn ++ pins) (seen X pins D (h₀ :: hds)) (fun u s' h' => ?_) PassesOwn.looking
  · refine wpAny_mono (rule.run [] s σ H D (I.toTry _) h) (fun f s1 g => ?_) fun _ _ e => e
    match f, g with
    | .next, ⟨_, _, k, q⟩ => exact wpAny_execs_nil ⟨_, _, k.ofTry I.ok, q⟩
    | .brk, ⟨_, _, k, q⟩ => exact ⟨_, _, k.ofTry I.ok, q⟩
    | .cont, ⟨_, _, k, q⟩ => exact ⟨_, _, k.ofTry I.ok, q⟩
    | .ret u, ⟨_, _, _, k, r, q⟩ => exact ⟨_, _, _, k.ofTry I.ok, r, q⟩
  · obtain ⟨a, B, sI, _, σ1, H1, cls, d, rfl, J, nb, up, sky, na, os, ag, w⟩ := h'
    rw [show (X.tr (X.pn ++ pins) (seen X pins D (h₀ :: hds))).stack = X.env :: X.outer from hs] at sky
    exact Sky.land Zc.steady frames hf sky fun g l u => hh.all ⟨J.ofTry I.ok, nb, l, up.trans u, na, os, ag⟩ hs hf hN hi hln tk w
end
section
variable {K : PySem.W.Frag} {i : Nat} {Wout : WX} {Dn : Ends} {c cls : Value} {d : Option Addr} {ts : Addr → Value → Option Addr → TS} {r : List (Value × (Addr → Value → Option Addr → TS))} {σ : L2.St} {H : Hp}
theorem clause_no (h : PySem.W.exmOne K cls c = some false) (k : wManyAs K i Wout Dn r cls d σ H) : wManyAs K i Wout Dn ((c, ts) :: r) cls d σ H := ⟨false, h, fun z => Bool.noConfusion z, fun _ => k⟩
theorem clause_yes (h : PySem.W.exmOne K cls c = some true)
    (k : ∀ a, H a = none → ts a cls d { nx := fun σ' H' => Dn.nx (σ'.set i none) H', rt := Dn.rt, bk := fun σ' H' => Dn.bk (σ'.set i none) H', ct := fun σ' H' => Dn.ct (σ'.set i none) H' } (σ.set i (some (.ref a))) H) : wManyAs K i Wout Dn ((c, ts) :: r) cls d σ H := ⟨true, h, fun _ => k, fun z => Bool.noConfusion z⟩
end
/-- a def that is called in a suite; its promise knows the class and the place of what is held -/
structure FnE (P : Program) (w : World) (K : PySem.W.Frag) (mg : Str → Option Value) (base : Heap) (k : Nat) (f : Addr) (fd : FuncData) (ps : List Str) (sp : Value → Addr → Sp) : Prop where
  len : ∀ cls a vs H Q E, sp cls a vs H Q E → vs.length = ps.length
  run : ∀ (A : Around) (outer : List Env) (s : Shared) (H : Hp) (args : Args) (us : List Value) (vs : List V) (Q : VK) (E : XK) (p : Addr × Obj) (cls : Value), L2H.RoomH k A → Zc cls none p.2 → (∃ vs, p.2.data = .fields vs) → L2H.PinOk outer H s p → Env0 P w K mg base A outer s H →
    BindsTo s fd args (ps.zip us) → Vals vs us → sp cls p.1 vs H Q E → codeAny (model P w) A (.call (.ref f) args) (CR CX0 outer P w H s Q E) s
section
variable {P : Program} {w : World} {K : PySem.W.Frag} {mg : Str → Option Value} {base : Heap} {k : Nat} {f : Addr} {name qual : Str} {params : Arguments} {body : List Stmt} {scope : Scope} {dV kV doc pm cdv ct oc : Value} {an od : Option Addr} {osl : Array (Option Value)} {N ps : List Str}
/-- the def is entered: its frame stands, its parameters are bound -/
theorem call_enters {A : Around} {outer : List Env} {s : Shared} {H : Hp} {args : Args} {us : List Value} {R : Result → Shared → Prop} (lk : K.lookup f = some ⟨oc, od, .func (PySem.W.fnOf name qual params body scope dV kV doc pm an cdv ct), osl⟩) (hcd : PySem.W.codeIn K cdv qual = true) (S : FnScope N ps scope)
    (deep : A.depth < recursionLimit) (e0 : Env0 P w K mg base A outer s H) (hb : BindsTo s (PySem.W.fnOf name qual params body scope dV kV doc pm an cdv ct) args (ps.zip us))
    (go : ∀ s1, InCallC s s.heap.objs.size (bindL (envOfC qual scope s.heap.objs.size f cdv).kindOf (ps.zip us) fun _ => none) (cellsFrom (s.heap.objs.size + 1) scope.names []) (bindC (envOfC qual scope s.heap.objs.size f cdv).kindOf (ps.zip us) fun _ => none) s1 → codeAny (model P w) A (.func body (envOfC qual scope s.heap.objs.size f cdv)) R s1) :
    codeAny (model P w) A (.call (.ref f) args) R s := by
  have here : K.In s.heap := e0.mod.kin.keeps fun b o e => (e0.bs b o e).1
  refine codeAny_call_function deep (here _ _ lk) rfl S.co S.gen rfl (PySem.W.codeRec_of here hcd) (hb _ _ _ _ (wpAny_newFunctionEnv_cells S.kind (fun y hy => ?_) fun env he s1 x => ?_))
  · exact (S.par y.1 (List.of_mem_zip hy).1).imp_right fun q => ⟨q, PySem.W.cellsFrom_some _ _ _ (Or.inl q)⟩
  · subst he
    exact ⟨(e0.mod.nolimit.keeps fun b o e => (e0.bs b o e).1).keeps x.toInCall.keep, go s1 x⟩
theorem fn_ofE {sp : Value → Addr → Sp} (lk : K.lookup f = some ⟨oc, od, .func (PySem.W.fnOf name qual params body scope dV kV doc pm an cdv ct), osl⟩) (hcd : PySem.W.codeIn K cdv qual = true) (S : FnScope N ps scope)
    (len : ∀ cls a vs H Q E, sp cls a vs H Q E → vs.length = ps.length)
    (hbody : ∀ (A : Around) (outer : List Env) (s : Shared) (H : Hp) (vs : List V) (Q : VK) (E : XK) (p : Addr × Obj) (cls : Value), Zc cls none p.2 → (∃ vs, p.2.data = .fields vs) → L2H.RoomH k (A.deeper (envOfC qual scope s.heap.objs.size f cdv)) → sp cls p.1 vs H Q E →
      ∃ t, PSs (L2H.cxH CX0 P w K mg base N qual scope f cdv A outer s H E p) body t ∧ t { nx := fun _ H' => Q .non H', rt := Q } (L2.start N vs) H) :
    FnE P w K mg base (k + 1) f (PySem.W.fnOf name qual params body scope dV kV doc pm an cdv ct) ps sp := by
  constructor
  · exact len
  intro A outer s H args us vs Q E p cls hr hz hf hpin e0 hb r hsp
  obtain ⟨t, ht, hq⟩ := hbody A outer s H vs Q E p cls hz hf (hr.deeper _) hsp
  refine call_enters lk hcd S hr.depth e0 hb fun s1 x => codeAny_func ?_
  refine wpAny_mono (ht.run [] s1 _ H _ (L2H.inv_startH S hpin e0 (len _ _ _ _ _ _ hsp) r x) hq) (fun fl s2 h => ?_) fun _ _ h => h
  match fl, h with
  | .ret u, ⟨v, _, H2, J, ru, q⟩ => exact ⟨v, H2, J.os, J.bare, J.base, J.hok, ru, q⟩
  | .next, ⟨_, H2, J, q⟩ => exact ⟨.non, H2, J.os, J.bare, J.base, J.hok, rfl, q⟩
  | .brk, ⟨_, _, _, q⟩ => exact (show False from q).elim
  | .cont, ⟨_, _, _, q⟩ => exact (show False from q).elim
end
/-- a call of such a def, a and oe what is held -/
def tCallE (sp : Value → Addr → Sp) (cls : Value) (d : Option Addr) (a : Addr) (t : TA) : TE := fun σ H Q => t σ H fun vs H1 => d = none ∧ sp cls a vs H1 Q E0
structure CalE (P : Program) (w : World) (K : PySem.W.Frag) (mg : Str → Option Value) (base : Heap) (x : Str) (ps : List Str) (k : Nat) (sp : Value → Addr → Sp) : Prop where
  ex : ∃ f fd, FnE P w K mg base k f fd ps sp ∧ mg x = some (.ref f) ∧ PySem.W.keepIn K (.ref f) = true ∧ Binds K fd ps []
section
variable {X : Cx} {x : Str} {ps : List Str} {k k' : Nat} {sp : Value → Addr → Sp} {q pos : Pos} {e : Expr} {es : List Expr} {t : TA} {cls : Value} {d : Option Addr} {a : Addr} {oe : Obj}
/-- the state as such a def finds it -/
theorem pinned {pins : List (Addr × Obj)} {σ : L2.St} {H : Hp} {s : Shared} (I : Inv X pins σ H s) (hp : (a, oe) ∈ X.pn) : L2H.PinOk X.stack H s (a, oe) := by
  obtain ⟨h1, h2, h3, h4, h5⟩ := I.pin (a, oe) (List.mem_append_left _ hp)
  refine ⟨h1, h2, fun hm => ?_, h5⟩
  rcases List.mem_cons.mp (I.stkSub _ hm) with e | e
  · exact h3 e
  · exact h4 e
theorem pe_calE (C : CalE X.prog X.w X.K X.mg X.base x ps k sp) (hr : L2H.RoomH k' X.A) (hk : k ≤ k') (hz : Zc cls d oe) (hf : ∃ vs, oe.data = .fields vs) (hp : (a, oe) ∈ X.pn) (hg : Gl X x) (ha : PA X (e :: es) t)
    (hdb : (x == ("__debug__" : Str)) = false := by decide) (he : starEach (e :: es) X.env = (false, eval e X.env) :: starEach es X.env := by rfl) (hpl : (backTo pos (starEach es X.env)).any (·.1) = false := by rfl) :
    PE X (.Call (.Name x q) (e :: es) [] pos) (tCallE sp cls d a t) := by
  obtain ⟨f, fd, F, hm, hkp, hb⟩ := C.ex
  refine ⟨fun pins s σ H Q I h => wpAny_Call_Name_kw (ld_glob I hg hm (PySem.W.callWith_K (h₀ := X.base) I.ok.mod.kin hkp (thn (ha.run pos pins s σ H _ I h) fun us s1 g => ?_) he hpl) hdb)⟩
  obtain ⟨vs, H1, J, r, rfl, h1⟩ := g
  have b := hb s1 us J.kIn (by rw [List.append_nil, ← r.length]; exact F.len _ _ _ _ _ _ h1)
  rw [List.append_nil] at b
  have run := F.run X.A X.stack s1 H1 ⟨us, []⟩ us vs Q E0 (a, oe) cls (hr.mono hk) hz hf (pinned J hp) J.env0 b r h1
  refine ⟨J.kIn, wpAny_call (codeAny_mono run fun res s2 g => ?_)⟩
  match res, g with
  | .ok (.ret u), g => exact J.after g
  | .ok .next, g => exact (show False from g).elim
  | .ok .brk, g => exact (show False from g).elim
  | .ok .cont, g => exact (show False from g).elim
  | .error e, g => exact (show False from g).elim
/-- isinstance(e, c), e the exception that is pinned -/
theorem call_isP {D : Addr} (hp : (a, oe) ∈ X.pn) (C : ExcC X.K D) (hz : Zc (.ref D) none oe) (hf : ∃ vs, oe.data = .fields vs) : CallR X (.builtin "isinstance") (rIsE X.K D a) := by
  intro pins s σ H xs us Q I r ⟨c, cv, b, hxs, hcv, e, q⟩
  subst hxs
  obtain ⟨u1, u2, rfl, r1, r2⟩ := vals2 r
  obtain rfl : u1 = Value.ref a := r1
  obtain rfl := hcv u2 r2
  obtain ⟨vs, hv⟩ := hf
  have at_ : PySem.W.InstAt s.heap a oe D none := by
    have hg := (I.pin (a, oe) (List.mem_append_left _ hp)).1
    rcases oe with ⟨oc, od, dt, sl⟩
    rcases hz with ⟨rfl, rfl⟩
    cases hv
    exact ⟨hg, rfl, rfl, trivial⟩
  have Z := PySem.W.handS_kitx_exc (x := a) (ox := oe) C.hg C.hk C.hs C.hd C.ha C.hn C.ht C.hm
  exact PySem.W.kia_one Z I.kIn at_ e (fun z => nomatch z) fun tk => ⟨.bl b, H, I.tok tk, rfl, q⟩
theorem call_str_bl {X : Cx} : CallR X (.type "str") (fun xs H Q => ∃ b, xs = [.bl b] ∧ Q (.str (if b then "True" else "False")) H) := by
  intro pins s σ H xs us Q I r h
  obtain ⟨b, rfl, q⟩ := h
  obtain ⟨u, rfl, rfl⟩ := vals1 r
  exact PySem.P.str_of_bool ⟨.str _, H, I.tok _, ⟨_, rfl⟩, q⟩
end
/-- what a refusal's class says of the others -/
structure Kinds (K : PySem.W.Frag) (mg : Str → Option Value) (d : Str) : Prop where
  ec : ExcC K (cadr mg d)
  self : PySem.W.kitOne K (.ref (cadr mg d)) (.ref (cadr mg d)) = some true
  pe : PySem.W.kitOne K (.ref (cadr mg d)) (.ref (cadr mg "PackError")) = some true
  ve : PySem.W.kitOne K (.ref (cadr mg d)) (.type "ValueError") = some true
  k1 : (("BadBook" : Str) == d) = false → PySem.W.kitOne K (.ref (cadr mg d)) (.ref (cadr mg "BadBook")) = some false
  k2 : (("BadShares" : Str) == d) = false → PySem.W.kitOne K (.ref (cadr mg d)) (.ref (cadr mg "BadShares")) = some false
  k3 : (("BadSign" : Str) == d) = false → PySem.W.kitOne K (.ref (cadr mg d)) (.ref (cadr mg "BadSign")) = some false
  k4 : (("BadCount" : Str) == d) = false → PySem.W.kitOne K (.ref (cadr mg d)) (.ref (cadr mg "BadCount")) = some false
  k5 : (("BadBit" : Str) == d) = false → PySem.W.kitOne K (.ref (cadr mg d)) (.ref (cadr mg "BadBit")) = some false
  k6 : (("Loose" : Str) == d) = false → PySem.W.kitOne K (.ref (cadr mg d)) (.ref (cadr mg "Loose")) = some false
  k7 : (("Short" : Str) == d) = false → PySem.W.kitOne K (.ref (cadr mg d)) (.ref (cadr mg "Short")) = some false
  k8 : (("BadLine" : Str) == d) = false → PySem.W.kitOne K (.ref (cadr mg d)) (.ref (cadr mg "BadLine")) = some false
section
variable {K : PySem.W.Frag} {mg : Str → Option Value} {c d : Str} {σ : L2.St} {H : Hp} {ta tb : TE} {a D : Addr}
theorem kd_is (self : PySem.W.kitOne K (.ref (cadr mg d)) (.ref (cadr mg d)) = some true) (no : (c == d) = false → PySem.W.kitOne K (.ref (cadr mg d)) (.ref (cadr mg c)) = some false) : PySem.W.kitOne K (.ref (cadr mg d)) (.ref (cadr mg c)) = some (c == d) := by
  cases h : (c == d) with
  | false => exact no h
  | true => rw [eq_of_beq h]; exact self
/-- int(isinstance(e, c)), c a class of one's own -/
theorem ev_isP {b : Bool} {C : Addr} (ha : Ev ta σ H (.ref a)) (hb : Ev tb σ H (.ref C)) (h : PySem.W.kitOne K (.ref D) (.ref C) = some b) : Ev (tCB (rIsE K D a) (tCons ta (tCons tb tNil))) σ H (.bl b) :=
  ev_cb (ea_cons ha (ea_cons hb ea_nil)) fun H1 _ Q q => ⟨.ref C, .ref C, b, rfl, fun u hu => hu, h, q H1 (Ex.refl _)⟩
theorem ev_isPt {b : Bool} {n : String} (ha : Ev ta σ H (.ref a)) (hb : Ev tb σ H (.ty n)) (h : PySem.W.kitOne K (.ref D) (.type n) = some b) : Ev (tCB (rIsE K D a) (tCons ta (tCons tb tNil))) σ H (.bl b) :=
  ev_cb (ea_cons ha (ea_cons hb ea_nil)) fun H1 _ Q q => ⟨.ty n, .type n, b, rfl, fun u hu => hu, h, q H1 (Ex.refl _)⟩
theorem ev_calE {sp : Value → Addr → Sp} {cls : Value} {t : TA} {vs : List V} {z : V} (ha : EvA t σ H vs) (h : ∀ H1, Ex H H1 → ∀ Q : VK, RetV z H1 Q → sp cls a vs H1 Q E0) : Ev (tCallE sp cls none a t) σ H z := fun H1 e1 Q q =>
  ha H1 e1 _ fun H2 e2 => ⟨rfl, h H2 (e1.trans e2) Q fun H3 e3 => q H3 (e2.trans e3)⟩
end
end SP

namespace SP
open PySem L2 Evl
def top (i : Nat) : Stmt := PySem.Challenge.pw_sharepack_k11_lines.main.body.getD i (.Pass ⟨0, 0, 0, 0⟩)
abbrev s_is_whole : Stmt := top 12
theorem sc_is_whole : FnScope ["value", "low", "high"] ["value", "low", "high"] (defScope s_is_whole) := ⟨rfl, rfl, rfl, by decide +kernel, rfl, by decide +kernel, by decide +kernel⟩
abbrev s_check_shares : Stmt := top 17
theorem sc_check_shares : FnScope ["shares", "share"] ["shares"] (defScope s_check_shares) := ⟨rfl, rfl, rfl, by decide +kernel, rfl, by decide +kernel, by decide +kernel⟩
abbrev s_check_counts : Stmt := top 18
theorem sc_check_counts : FnScope ["counts", "many", "count"] ["counts", "many"] (defScope s_check_counts) := ⟨rfl, rfl, rfl, by decide +kernel, rfl, by decide +kernel, by decide +kernel⟩
abbrev s_check_cap : Stmt := top 19
theorem sc_check_cap : FnScope ["cap", "many"] ["cap", "many"] (defScope s_check_cap) := ⟨rfl, rfl, rfl, by decide +kernel, rfl, by decide +kernel, by decide +kernel⟩
abbrev s_counted : Stmt := top 20
theorem sc_counted : FnScope ["signs", "block", "sign"] ["signs", "block"] (defScope s_counted) := ⟨rfl, rfl, rfl, by decide +kernel, rfl, by decide +kernel, by decide +kernel⟩
abbrev s_learnt : Stmt := top 21
theorem sc_learnt : FnScope ["shares", "counts", "cap", "grown", "share", "count"] ["shares", "counts", "cap"] (defScope s_learnt) := ⟨rfl, rfl, rfl, by decide +kernel, rfl, by decide +kernel, by decide +kernel⟩
abbrev s_pairs : Stmt := top 23
theorem sc_pairs : FnScope ["shares", "free", "made", "least", "first", "following", "other", "number", "share"] ["shares"] (defScope s_pairs) := ⟨rfl, rfl, rfl, by decide +kernel, rfl, by decide +kernel, by decide +kernel⟩
abbrev s_codes : Stmt := top 24
theorem sc_codes : FnScope ["shares", "made", "words", "at", "first", "other", "way"] ["shares"] (defScope s_codes) := ⟨rfl, rfl, rfl, by decide +kernel, rfl, by decide +kernel, by decide +kernel⟩
abbrev s_check_text : Stmt := top 27
theorem sc_check_text : FnScope ["signs", "text", "sign"] ["signs", "text"] (defScope s_check_text) := ⟨rfl, rfl, rfl, by decide +kernel, rfl, by decide +kernel, by decide +kernel⟩
abbrev s_check_bits : Stmt := top 28
theorem sc_check_bits : FnScope ["bits", "bit"] ["bits"] (defScope s_check_bits) := ⟨rfl, rfl, rfl, by decide +kernel, rfl, by decide +kernel, by decide +kernel⟩
abbrev s_Learner___init__ : Stmt := inClass (top 29) 0
theorem sc_Learner___init__ : FnScope ["self", "book"] ["self", "book"] (defScope s_Learner___init__) := ⟨rfl, rfl, rfl, by decide +kernel, rfl, by decide +kernel, by decide +kernel⟩
abbrev s_Learner_took : Stmt := inClass (top 29) 1
theorem sc_Learner_took : FnScope ["self", "sign"] ["self", "sign"] (defScope s_Learner_took) := ⟨rfl, rfl, rfl, by decide +kernel, rfl, by decide +kernel, by decide +kernel⟩
abbrev s_Learner__learn : Stmt := inClass (top 29) 2
theorem sc_Learner__learn : FnScope ["self", "counts"] ["self"] (defScope s_Learner__learn) := ⟨rfl, rfl, rfl, by decide +kernel, rfl, by decide +kernel, by decide +kernel⟩
abbrev s_Learner_held : Stmt := inClass (top 29) 3
theorem sc_Learner_held : FnScope ["self"] ["self"] (defScope s_Learner_held) := ⟨rfl, rfl, rfl, by decide +kernel, rfl, by decide +kernel, by decide +kernel⟩
abbrev s_Learner_go_back : Stmt := inClass (top 29) 4
theorem sc_Learner_go_back : FnScope ["self", "held"] ["self", "held"] (defScope s_Learner_go_back) := ⟨rfl, rfl, rfl, by decide +kernel, rfl, by decide +kernel, by decide +kernel⟩
abbrev s_Packer___init__ : Stmt := inClass (top 30) 0
theorem sc_Packer___init__ : FnScope ["self", "book"] ["self", "book"] (defScope s_Packer___init__) := ⟨rfl, rfl, rfl, by decide +kernel, rfl, by decide +kernel, by decide +kernel⟩
abbrev s_Packer_put : Stmt := inClass (top 30) 1
theorem sc_Packer_put : FnScope ["self", "part", "bits", "sign"] ["self", "part"] (defScope s_Packer_put) := ⟨rfl, rfl, rfl, by decide +kernel, rfl, by decide +kernel, by decide +kernel⟩
abbrev s_Unpacker___init__ : Stmt := inClass (top 31) 0
theorem sc_Unpacker___init__ : FnScope ["self", "book", "many"] ["self", "book", "many"] (defScope s_Unpacker___init__) := ⟨rfl, rfl, rfl, by decide +kernel, rfl, by decide +kernel, by decide +kernel⟩
abbrev s_Unpacker_put : Stmt := inClass (top 31) 1
theorem sc_Unpacker_put : FnScope ["self", "bits", "held", "left", "way", "known", "used"] ["self", "bits"] (defScope s_Unpacker_put) := ⟨rfl, rfl, rfl, by decide +kernel, rfl, by decide +kernel, by decide +kernel⟩
abbrev s_Unpacker__follow : Stmt := inClass (top 31) 2
theorem sc_Unpacker__follow : FnScope ["self", "bits", "known", "used"] ["self", "bits"] (defScope s_Unpacker__follow) := ⟨rfl, rfl, rfl, by decide +kernel, rfl, by decide +kernel, by decide +kernel⟩
abbrev s_Unpacker__arrive : Stmt := inClass (top 31) 3
theorem sc_Unpacker__arrive : FnScope ["self", "sign"] ["self"] (defScope s_Unpacker__arrive) := ⟨rfl, rfl, rfl, by decide +kernel, rfl, by decide +kernel, by decide +kernel⟩
abbrev s_pack : Stmt := top 32
theorem sc_pack : FnScope ["book", "text"] ["book", "text"] (defScope s_pack) := ⟨rfl, rfl, rfl, by decide +kernel, rfl, by decide +kernel, by decide +kernel⟩
abbrev s_unpack : Stmt := top 33
theorem sc_unpack : FnScope ["book", "bits", "many", "unpacker", "text"] ["book", "bits", "many"] (defScope s_unpack) := ⟨rfl, rfl, rfl, by decide +kernel, rfl, by decide +kernel, by decide +kernel⟩
abbrev s_written : Stmt := top 36
theorem sc_written : FnScope ["book", "text"] ["book", "text"] (defScope s_written) := ⟨rfl, rfl, rfl, by decide +kernel, rfl, by decide +kernel, by decide +kernel⟩
abbrev s_read : Stmt := top 37
theorem sc_read : FnScope ["book", "line", "count", "blank", "bits"] ["book", "line"] (defScope s_read) := ⟨rfl, rfl, rfl, by decide +kernel, rfl, by decide +kernel, by decide +kernel⟩
abbrev s_is_count : Stmt := top 38
theorem sc_is_count : FnScope ["count"] ["count"] (defScope s_is_count) := ⟨rfl, rfl, rfl, by decide +kernel, rfl, by decide +kernel, by decide +kernel⟩
abbrev s_check_signs : Stmt := top 41
theorem sc_check_signs : FnScope ["signs", "sign"] ["signs"] (defScope s_check_signs) := ⟨rfl, rfl, rfl, by decide +kernel, rfl, by decide +kernel, by decide +kernel⟩
abbrev s_Book___init__ : Stmt := inClass (top 42) 0
theorem sc_Book___init__ : FnScope ["self", "signs", "size", "cap"] ["self", "signs", "size", "cap"] (defScope s_Book___init__) := ⟨rfl, rfl, rfl, by decide +kernel, rfl, by decide +kernel, by decide +kernel⟩
abbrev s_cell_at : Stmt := top 44
theorem sc_cell_at : FnScope ["_law_script", "_law_k"] ["_law_script", "_law_k"] (defScope s_cell_at) := ⟨rfl, rfl, rfl, by decide +kernel, rfl, by decide +kernel, by decide +kernel⟩
abbrev s_many_by : Stmt := top 45
theorem sc_many_by : FnScope ["_law_cell"] ["_law_cell"] (defScope s_many_by) := ⟨rfl, rfl, rfl, by decide +kernel, rfl, by decide +kernel, by decide +kernel⟩
abbrev s_signs_by : Stmt := top 46
theorem sc_signs_by : FnScope ["_law_cell", "_law_many", "_law_some", "_law_step", "_law_k"] ["_law_cell", "_law_many"] (defScope s_signs_by) := ⟨rfl, rfl, rfl, by decide +kernel, rfl, by decide +kernel, by decide +kernel⟩
abbrev s_text_by : Stmt := top 47
theorem sc_text_by : FnScope ["_law_script", "_law_first", "_law_signs", "_law_size", "_law_more", "_law_cells", "_law_k", "_law_cell"] ["_law_script", "_law_first", "_law_signs", "_law_size"] (defScope s_text_by) := ⟨rfl, rfl, rfl, by decide +kernel, rfl, by decide +kernel, by decide +kernel⟩
abbrev s_book_by : Stmt := top 48
theorem sc_book_by : FnScope ["_law_script", "_law_many", "_law_signs", "_law_size", "_law_cap"] ["_law_script"] (defScope s_book_by) := ⟨rfl, rfl, rfl, by decide +kernel, rfl, by decide +kernel, by decide +kernel⟩
abbrev s_kinds : Stmt := top 49
theorem sc_kinds : FnScope ["_law_e", "_law_found"] ["_law_e"] (defScope s_kinds) := ⟨rfl, rfl, rfl, by decide +kernel, rfl, by decide +kernel, by decide +kernel⟩
abbrev s_told : Stmt := top 50
theorem sc_told : FnScope ["_law_book", "_law_line", "_law_found", "_law_e"] ["_law_book", "_law_line"] (defScope s_told) := ⟨rfl, rfl, rfl, by decide +kernel, rfl, by decide +kernel, by decide +kernel⟩
abbrev s_bad_count : Stmt := top 51
theorem sc_bad_count : FnScope ["_law_cell", "_law_many", "_law_figures", "_law_at", "_law_way"] ["_law_cell", "_law_many"] (defScope s_bad_count) := ⟨rfl, rfl, rfl, by decide +kernel, rfl, by decide +kernel, by decide +kernel⟩
abbrev s_law : Stmt := top 52
theorem sc_law : FnScope ["_law_script", "_law_signs", "_law_size", "_law_cap", "_law_many", "_law_book", "_law_text", "_law_bits", "_law_line", "_law_back", "_law_cell", "_law_great"] ["_law_script"] (defScope s_law) := ⟨rfl, rfl, rfl, by decide +kernel, rfl, by decide +kernel, by decide +kernel⟩
structure Txt (K : PySem.W.Frag) (mg : Str → Option Value) : Prop where
  b_ValueError : mg "ValueError" = none
  b_bool : mg "bool" = none
  b_enumerate : mg "enumerate" = none
  b_int : mg "int" = none
  b_isinstance : mg "isinstance" = none
  b_len : mg "len" = none
  b_list : mg "list" = none
  b_max : mg "max" = none
  b_range : mg "range" = none
  b_reversed : mg "reversed" = none
  b_str : mg "str" = none
  b_sum : mg "sum" = none
  b_zip : mg "zip" = none
  cl_Book : Cls K (cadr mg "Book")
  cl_Learner : Cls K (cadr mg "Learner")
  cl_Packer : Cls K (cadr mg "Packer")
  cl_Unpacker : Cls K (cadr mg "Unpacker")
  mc_BadBit : mg "BadBit" = some (.ref (cadr mg "BadBit"))
  mc_BadBook : mg "BadBook" = some (.ref (cadr mg "BadBook"))
  mc_BadCount : mg "BadCount" = some (.ref (cadr mg "BadCount"))
  mc_BadLine : mg "BadLine" = some (.ref (cadr mg "BadLine"))
  mc_BadShares : mg "BadShares" = some (.ref (cadr mg "BadShares"))
  mc_BadSign : mg "BadSign" = some (.ref (cadr mg "BadSign"))
  mc_Loose : mg "Loose" = some (.ref (cadr mg "Loose"))
  mc_PackError : mg "PackError" = some (.ref (cadr mg "PackError"))
  mc_Short : mg "Short" = some (.ref (cadr mg "Short"))
  na_Book_cap : NoAttr K (cadr mg "Book") "cap"
  na_Book_signs : NoAttr K (cadr mg "Book") "signs"
  na_Book_size : NoAttr K (cadr mg "Book") "size"
  na_Learner__book : NoAttr K (cadr mg "Learner") "_book"
  na_Learner_shares : NoAttr K (cadr mg "Learner") "shares"
  na_Learner_waits : NoAttr K (cadr mg "Learner") "waits"
  na_Learner_words : NoAttr K (cadr mg "Learner") "words"
  na_Packer__signs : NoAttr K (cadr mg "Packer") "_signs"
  na_Packer_learner : NoAttr K (cadr mg "Packer") "learner"
  na_Unpacker__signs : NoAttr K (cadr mg "Unpacker") "_signs"
  na_Unpacker__way : NoAttr K (cadr mg "Unpacker") "_way"
  na_Unpacker_learner : NoAttr K (cadr mg "Unpacker") "learner"
  na_Unpacker_left : NoAttr K (cadr mg "Unpacker") "left"
  g_GREATEST_CAP : ∃ u, mg "GREATEST_CAP" = some u ∧ RelV (.int 1000000) u
  g_GREATEST_SHARE : ∃ u, mg "GREATEST_SHARE" = some u ∧ RelV (.int 1000000000000) u
  g_LONGEST_BLOCK : ∃ u, mg "LONGEST_BLOCK" = some u ∧ RelV (.int 99) u
  g_LONGEST_TEXT : ∃ u, mg "LONGEST_TEXT" = some u ∧ RelV (.int 2000) u
  g_MOST_FIGURES : ∃ u, mg "MOST_FIGURES" = some u ∧ RelV (.int 4) u
  g_MOST_SHARES : ∃ u, mg "MOST_SHARES" = some u ∧ RelV (.int 40) u
  g_heapify : mg "heapify" = some (.builtin "_heapq.heapify")
  g_heappop : mg "heappop" = some (.builtin "_heapq.heappop")
  g_heappush : mg "heappush" = some (.builtin "_heapq.heappush")
  ex_BadBit : Err K mg "BadBit"
  ex_BadCount : Err K mg "BadCount"
  ex_BadLine : Err K mg "BadLine"
  ex_Loose : Err K mg "Loose"
  ex_Short : Err K mg "Short"
  xm_BadBit_BadBit : PySem.W.exmOne K (.ref (cadr mg "BadBit")) (.ref (cadr mg "BadBit")) = some true
  xm_BadBit_BadCount : PySem.W.exmOne K (.ref (cadr mg "BadBit")) (.ref (cadr mg "BadCount")) = some false
  xm_BadBit_BadLine : PySem.W.exmOne K (.ref (cadr mg "BadBit")) (.ref (cadr mg "BadLine")) = some false
  xm_BadCount_BadCount : PySem.W.exmOne K (.ref (cadr mg "BadCount")) (.ref (cadr mg "BadCount")) = some true
  xm_BadCount_BadLine : PySem.W.exmOne K (.ref (cadr mg "BadCount")) (.ref (cadr mg "BadLine")) = some false
  xm_BadLine_BadLine : PySem.W.exmOne K (.ref (cadr mg "BadLine")) (.ref (cadr mg "BadLine")) = some true
  xm_Loose_BadBit : PySem.W.exmOne K (.ref (cadr mg "Loose")) (.ref (cadr mg "BadBit")) = some false
  xm_Loose_BadCount : PySem.W.exmOne K (.ref (cadr mg "Loose")) (.ref (cadr mg "BadCount")) = some false
  xm_Loose_BadLine : PySem.W.exmOne K (.ref (cadr mg "Loose")) (.ref (cadr mg "BadLine")) = some false
  xm_Loose_Loose : PySem.W.exmOne K (.ref (cadr mg "Loose")) (.ref (cadr mg "Loose")) = some true
  xm_Short_BadBit : PySem.W.exmOne K (.ref (cadr mg "Short")) (.ref (cadr mg "BadBit")) = some false
  xm_Short_BadCount : PySem.W.exmOne K (.ref (cadr mg "Short")) (.ref (cadr mg "BadCount")) = some false
  xm_Short_BadLine : PySem.W.exmOne K (.ref (cadr mg "Short")) (.ref (cadr mg "BadLine")) = some false
  xm_Short_Loose : PySem.W.exmOne K (.ref (cadr mg "Short")) (.ref (cadr mg "Loose")) = some false
  xm_Short_Short : PySem.W.exmOne K (.ref (cadr mg "Short")) (.ref (cadr mg "Short")) = some true
  kd_BadBit : Kinds K mg "BadBit"
  kd_BadCount : Kinds K mg "BadCount"
  kd_BadLine : Kinds K mg "BadLine"
  kd_Loose : Kinds K mg "Loose"
  kd_Short : Kinds K mg "Short"
section
variable {P : Program} {w : World} {K : PySem.W.Frag} {mg : Str → Option Value} {base : Heap}
def sp_isw : Sp := fun vs H Q _ => ∃ v lo hi : Int, vs = [.int v, .int lo, .int hi] ∧ RetV (.bl (decide (lo ≤ v) && decide (v ≤ hi))) H Q
theorem isw_q {v lo hi : Int} {H : Hp} {Q : VK} (h1 : lo ≤ v) (h2 : v ≤ hi) (q : RetV (.bl true) H Q) : RetV (.bl (decide (lo ≤ v) && decide (v ≤ hi))) H Q := by
  rw [decide_eq_true h1, decide_eq_true h2]
  exact q
theorem ok_is_whole {f : Addr} {fd : FuncData} (T : Txt K mg) (F : Fun K "is_whole" "is_whole" s_is_whole f fd) : FnOk P w K mg base CX0 1 f fd ["value", "low", "high"] sp_isw := by
  refine F.ok sc_is_whole (fun vs H Q E h => by obtain ⟨v, lo, hi, rfl, _⟩ := h; rfl) (fun cdv A outer s H vs Q E hr h => ?_)
  obtain ⟨v, lo, hi, rfl, q⟩ := h
  refine ⟨_, (pss_cons (ps_if (PW.pt (pw_or (pt_val (pe_callB call_isi (by rfl) T.b_isinstance (by decide +kernel) (pa_cons (pv 0) (pa_cons (pe_bltn (v := .ty "bool") (by rfl) T.b_bool (by decide +kernel) rfl) pa_nil)))) (pw_or1 (pt_not (pt_val (pe_callB call_isi (by rfl) T.b_isinstance (by decide +kernel) (pa_cons (pv 0) (pa_cons (pe_bltn (v := .ty "int") (by rfl) T.b_int (by decide +kernel) rfl) pa_nil)))))))) (pss_one (ps_ret pe_bl)) pss_nil)
      (pss_one (ps_ret (pe_chain op_le op_le (pv 1) (pv 0) (pv 2))))), ?_⟩
  refine q_when (b := false) (et_or (a := false) (et_B (ev_isi (ev_var rfl) ev_c (fun _ _ => ty_int) (by decide +kernel))) fun _ => et_not (a := true) (et_B (ev_isi (ev_var rfl) ev_c (fun _ _ => ty_int) (by decide +kernel)))) (fun hx => nomatch hx) (fun _ H1 e1 => ?_)
  refine s_ret (ev_is (ev_chain (ev_var rfl) (ev_var rfl) (ev_var rfl)) (w := .bl (decide (lo ≤ v) && decide (v ≤ hi))) ?_) fun H2 e2 => q H2 (e1.trans e2)
  cases decide (lo ≤ v) <;> cases decide (v ≤ hi) <;> rfl
def sp_chkS (K : PySem.W.Frag) : Sp := fun vs H Q _ => ∃ (a : Addr) (ns : List Int), vs = [.ref a] ∧ H a = some (.lst (ns.map V.int)) ∧ Shares ns ∧ RetV .non H Q
theorem spv_chkS {H : Hp} {a : Addr} {ns : List Int} (ha : H a = some (.lst (ns.map V.int))) (hs : Shares ns) : SpV (sp_chkS K) [.ref a] H .non :=
  spv fun H1 e1 Q E q => ⟨a, ns, rfl, e1 _ _ ha, hs, q⟩
theorem ok_check_shares {f : Addr} {fd : FuncData} (T : Txt K mg) (F : Fun K "check_shares" "check_shares" s_check_shares f fd) (C_is_whole : Cal P w K mg base "is_whole" ["value", "low", "high"] 1 sp_isw) : FnOk P w K mg base CX0 2 f fd ["shares"] (sp_chkS K) := by
  refine F.ok sc_check_shares (fun vs H Q E h => by obtain ⟨a, ns, rfl, _⟩ := h; rfl) (fun cdv A outer s H vs Q E hr h => ?_)
  obtain ⟨a, ns, rfl, ha, ⟨h1, h2, h3⟩, q⟩ := h
  refine ⟨_, (pss_cons (ps_if (PW.pt (pw_or (pt_not (pt_val (pe_callB call_isi (by rfl) T.b_isinstance (by decide +kernel) (pa_cons (pv 0) (pa_cons (pe_bltn (v := .ty "list") (by rfl) T.b_list (by decide +kernel) rfl) pa_nil))))) (pw_or1 (pt_not (pt_chain op_le op_le pe_int (pe_callB call_len_seq (by rfl) T.b_len PySem.boot_len (pa_cons (pv 0) pa_nil)) (pe_globX (by rfl) T.g_MOST_SHARES)))))) (pss_one ps_never) pss_nil)
      (pss_one (ps_for PassesOwn.never rfl (pi_list (pv 0)) (pg_name (i := 1) sc_check_shares.nd rfl (Or.inl rfl)) (pss_one (ps_if (pt_not (pt_val (pe_cal C_is_whole hr (by decide) (by rfl) (pa_cons (pv 1) (pa_cons pe_int (pa_cons (pe_globX (by rfl) T.g_GREATEST_SHARE) pa_nil)))))) (pss_one ps_never) pss_nil))))), ?_⟩
  refine q_when (b := false) (et_or (a := false) (et_not (a := true) (et_B (ev_isi (ev_var rfl) ev_c (fun _ e => ty_lst (e _ _ ha)) (by decide +kernel)))) fun _ => et_not (a := true) (et_is (et_test (ev_chain ev_c (ev_lenL (ev_var rfl) (sq_of ha)) ev_c)) ?_)) (fun hx => nomatch hx) (fun _ H1 e1 => ?_)
  · rw [List.length_map, decide_eq_true (by omega), decide_eq_true (by omega)]
    rfl
  refine s_forLn (ev_var rfl) (sq_of (e1 _ _ ha)) (fun i σ' H' => Ex H1 H' ∧ ∃ y1, σ' = [some (.ref a), y1]) (fun H2 e2 => ⟨e2, none, rfl⟩) (fun i σ' H' _ p => sq_of (p.1 _ _ (e1 _ _ ha))) (fun i x σ' H' hx p => ?_) (fun σ' H' p => ?_)
  · obtain ⟨e2, y1, rfl⟩ := p
    obtain ⟨z, rfl, hz⟩ := int_at hx
    obtain ⟨g1, g2⟩ := h3 z (List.mem_of_getElem? hz)
    refine s_when (b := false) (et_not (a := true) (et_B (ev_cal (ea_cons (ev_var rfl) (ea_cons ev_c (ea_cons ev_c ea_nil))) (spv fun H3 _ Q E q => ⟨z, 1, 1000000000000, rfl, isw_q g1 g2 q⟩)))) (fun hx => nomatch hx) (fun _ H3 e3 => ?_)
    exact ⟨e2.trans e3, _, rfl⟩
  · obtain ⟨e2, y1, rfl⟩ := p
    exact q H' (e1.trans e2)
def sp_chkC (K : PySem.W.Frag) : Sp := fun vs H Q _ => ∃ (a : Addr) (ns : List Int) (n : Nat), vs = [.ref a, .int (n : Int)] ∧ H a = some (.lst (ns.map V.int)) ∧ Counts ns n ∧ RetV .non H Q
theorem ok_check_counts {f : Addr} {fd : FuncData} (T : Txt K mg) (F : Fun K "check_counts" "check_counts" s_check_counts f fd) (C_is_whole : Cal P w K mg base "is_whole" ["value", "low", "high"] 1 sp_isw) : FnOk P w K mg base CX0 2 f fd ["counts", "many"] (sp_chkC K) := by
  refine F.ok sc_check_counts (fun vs H Q E h => by obtain ⟨a, ns, n, rfl, _⟩ := h; rfl) (fun cdv A outer s H vs Q E hr h => ?_)
  obtain ⟨a, ns, n, rfl, ha, ⟨h1, h3⟩, q⟩ := h
  refine ⟨_, (pss_cons (ps_if (PW.pt (pw_or (pt_not (pt_val (pe_callB call_isi (by rfl) T.b_isinstance (by decide +kernel) (pa_cons (pv 0) (pa_cons (pe_bltn (v := .ty "list") (by rfl) T.b_list (by decide +kernel) rfl) pa_nil))))) (pw_or1 (pt_cmpR op_ne (pe_callB call_len_seq (by rfl) T.b_len PySem.boot_len (pa_cons (pv 0) pa_nil)) (pv 1) (nomark _))))) (pss_one ps_never) pss_nil)
      (pss_one (ps_for PassesOwn.never rfl (pi_list (pv 0)) (pg_name (i := 2) sc_check_counts.nd rfl (Or.inl rfl)) (pss_one (ps_if (pt_not (pt_val (pe_cal C_is_whole hr (by decide) (by rfl) (pa_cons (pv 2) (pa_cons pe_int (pa_cons (pe_globX (by rfl) T.g_GREATEST_SHARE) pa_nil)))))) (pss_one ps_never) pss_nil))))), ?_⟩
  refine q_when (b := false) (et_or (a := false) (et_not (a := true) (et_B (ev_isi (ev_var rfl) ev_c (fun _ e => ty_lst (e _ _ ha)) (by decide +kernel)))) fun _ => et_is (et_test (ev_op (ev_lenL (ev_var rfl) (sq_of ha)) (ev_var rfl) (rv_ne rfl))) ?_) (fun hx => nomatch hx) (fun _ H1 e1 => ?_)
  · rw [List.length_map, h1]
    simp
  refine s_forLn (ev_var rfl) (sq_of (e1 _ _ ha)) (fun i σ' H' => Ex H1 H' ∧ ∃ y1, σ' = [some (.ref a), some (.int (n : Int)), y1]) (fun H2 e2 => ⟨e2, none, rfl⟩) (fun i σ' H' _ p => sq_of (p.1 _ _ (e1 _ _ ha))) (fun i x σ' H' hx p => ?_) (fun σ' H' p => ?_)
  · obtain ⟨e2, y1, rfl⟩ := p
    obtain ⟨z, rfl, hz⟩ := int_at hx
    obtain ⟨g1, g2⟩ := h3 z (List.mem_of_getElem? hz)
    refine s_when (b := false) (et_not (a := true) (et_B (ev_cal (ea_cons (ev_var rfl) (ea_cons ev_c (ea_cons ev_c ea_nil))) (spv fun H3 _ Q E q => ⟨z, 0, 1000000000000, rfl, isw_q g1 g2 q⟩)))) (fun hx => nomatch hx) (fun _ H3 e3 => ?_)
    exact ⟨e2.trans e3, _, rfl⟩
  · obtain ⟨e2, y1, rfl⟩ := p
    exact q H' (e1.trans e2)
def sp_chkP : Sp := fun vs H Q _ => ∃ (c n : Int), vs = [.int c, .int n] ∧ n ≤ c ∧ c ≤ 1000000 ∧ RetV .non H Q
theorem ok_check_cap {f : Addr} {fd : FuncData} (T : Txt K mg) (F : Fun K "check_cap" "check_cap" s_check_cap f fd) (C_is_whole : Cal P w K mg base "is_whole" ["value", "low", "high"] 1 sp_isw) : FnOk P w K mg base CX0 2 f fd ["cap", "many"] sp_chkP := by
  refine F.ok sc_check_cap (fun vs H Q E h => by obtain ⟨c, n, rfl, _⟩ := h; rfl) (fun cdv A outer s H vs Q E hr h => ?_)
  obtain ⟨c, n, rfl, h1, h2, q⟩ := h
  refine ⟨_, (pss_one (ps_if (pt_not (pt_val (pe_cal C_is_whole hr (by decide) (by rfl) (pa_cons (pv 0) (pa_cons (pv 1) (pa_cons (pe_globX (by rfl) T.g_GREATEST_CAP) pa_nil)))))) (pss_one ps_never) pss_nil)), ?_⟩
  exact s_when (b := false) (et_not (a := true) (et_B (ev_cal (ea_cons (ev_var rfl) (ea_cons (ev_var rfl) (ea_cons ev_c ea_nil))) (spv fun H3 _ Q E q => ⟨c, n, 1000000, rfl, isw_q h1 h2 q⟩)))) (fun hx => nomatch hx) (fun _ H3 e3 => q H3 e3)
def sp_learnt (K : PySem.W.Frag) : Sp := fun vs H Q _ => ∃ (a b : Addr) (ns cs ys : List Int) (cap : Int), vs = [.ref a, .ref b, .int cap] ∧ H a = some (.lst (ns.map V.int)) ∧ H b = some (.lst (cs.map V.int)) ∧ Shares ns ∧ Counts cs ns.length ∧
  (ns.length : Int) ≤ cap ∧ cap ≤ 1000000 ∧ Halved cap (sumZ ns cs) ys ∧ RetL (ys.map V.int) H Q
theorem ok_learnt {f : Addr} {fd : FuncData} (T : Txt K mg) (F : Fun K "learnt" "learnt" s_learnt f fd) (C_check_shares : Cal P w K mg base "check_shares" ["shares"] 2 (sp_chkS K)) (C_check_counts : Cal P w K mg base "check_counts" ["counts", "many"] 2 (sp_chkC K)) (C_check_cap : Cal P w K mg base "check_cap" ["cap", "many"] 2 sp_chkP) : FnOk P w K mg base CX0 3 f fd ["shares", "counts", "cap"] (sp_learnt K) := by
  refine F.ok sc_learnt (fun vs H Q E h => by obtain ⟨a, b, ns, cs, ys, cap, rfl, _⟩ := h; rfl) (fun cdv A outer s H vs Q E hr h => ?_)
  obtain ⟨a, b, ns, cs, ys, cap, rfl, ha, hb, hS, hC, hc1, hc2, hy, q⟩ := h
  refine ⟨_, (pss_cons (ps_expr (pe_cal C_check_shares hr (by decide) (by rfl) (pa_cons (pv 0) pa_nil)))
      (pss_cons (ps_expr (pe_cal C_check_counts hr (by decide) (by rfl) (pa_cons (pv 1) (pa_cons (pe_callB call_len_seq (by rfl) T.b_len PySem.boot_len (pa_cons (pv 0) pa_nil)) pa_nil))))
      (pss_cons (ps_expr (pe_cal C_check_cap hr (by decide) (by rfl) (pa_cons (pv 2) (pa_cons (pe_callB call_len_seq (by rfl) T.b_len PySem.boot_len (pa_cons (pv 0) pa_nil)) pa_nil))))
      (pss_cons (ps_setLc (i := 3) (own := [("share", 4), ("count", 5)]) (g := (gTup K 2 (gCons (gName 4) (gCons (gName 5) gNil)))) (tt := tYes) rfl sc_learnt.nd rfl rfl (sw_true rfl rfl rfl (by decide +kernel)) (pi_zip (by rfl) T.b_zip (pa_cons (pv 0) (pa_cons (pv 1) pa_nil))) (blkOk_by (N := ["shares", "counts", "cap", "grown", "share", "count"]) (sc := defScope s_learnt) (by decide +kernel)) (fun _ _ _ _ _ => (pg_tup rfl (pgs_cons (pg_name (i := 4) sc_learnt.nd rfl (Or.inl rfl)) (pgs_cons (pg_name (i := 5) sc_learnt.nd rfl (Or.inl rfl)) pgs_nil)))) (fun _ _ _ _ _ => pts_nil) (fun _ _ _ _ _ => (pe_op op_add (pv 4) (pv 5))))
      (pss_cons (ps_while PassesOwn.never (pt_cmpR op_gt (pe_callB (cr_sum rfl) (by rfl) T.b_sum (by decide +kernel) (pa_cons (pv 3) pa_nil)) (pv 2) (nomark _)) (pss_one (ps_setLc (i := 3) (own := [("share", 4)]) (g := (gName 4)) (tt := tYes) rfl sc_learnt.nd rfl rfl (sw_true rfl rfl rfl (by decide +kernel)) (pi_list (pv 3)) (blkOk_by (N := ["shares", "counts", "cap", "grown", "share", "count"]) (sc := defScope s_learnt) (by decide +kernel)) (fun _ _ _ _ _ => (pg_name (i := 4) sc_learnt.nd rfl (Or.inl rfl))) (fun _ _ _ _ _ => pts_nil) (fun _ _ _ _ _ => (pe_op op_sub (pv 4) (pe_op op_fdiv (pv 4) pe_int))))))
      (pss_one (ps_ret (pv 3)))))))), ?_⟩
  refine q_drop (ev_cal (ea_cons (ev_var rfl) ea_nil) (spv_chkS ha hS)) fun H1 e1 => ?_
  refine q_drop (ev_cal (ea_cons (ev_var rfl) (ea_cons (ev_lenL (ev_var rfl) (sq_of (e1 _ _ ha))) ea_nil)) (spv fun H2 e2 Q E q => ⟨b, cs, ns.length, by rw [List.length_map], e2 _ _ (e1 _ _ hb), hC, q⟩)) fun H2 e2 => ?_
  have e12 := e1.trans e2
  refine q_drop (ev_cal (ea_cons (ev_var rfl) (ea_cons (ev_lenL (ev_var rfl) (sq_of (e12 _ _ ha))) ea_nil)) (spv fun H3 e3 Q E q => ⟨cap, ns.length, by rw [List.length_map], hc1, hc2, q⟩)) fun H3 e3 => ?_
  have e13 := e12.trans e3
  obtain ⟨hS1, hS2, hS3⟩ := id hS
  refine q_asgL (el_mapZ ((sumZ ns cs).map V.int) (ea_cons (ev_var rfl) (ea_cons (ev_var rfl) ea_nil)) (sq_of (e13 _ _ ha)) (sq_of (e13 _ _ hb)) (by rw [List.length_map, List.length_map, hC.1]) (by rw [List.length_map, List.length_map, sumZ_len hC.1]) (by rw [List.length_map]; omega) (fun _ _ => rfl) (fun k x z y H4 e4 h1 h2 h3 => ?_)) fun p H4 hp e4 h4 => ?_
  · obtain ⟨x, rfl, g1⟩ := int_at h1
    obtain ⟨z, rfl, g2⟩ := int_at h2
    obtain ⟨y, rfl, g3⟩ := int_at h3
    rw [sumZ_at g1 g2] at g3
    cases g3
    exact ev_op (ev_var rfl) (ev_var rfl) rv_I0
  refine q_while (fun m σ' H' => ∃ p y1 y2, σ' = [some (.ref a), some (.ref b), some (.int cap), some (.ref p), y1, y2] ∧ WH cap ys ns.length H m p H') ((sumZ ns cs).sum.toNat) ⟨p, _, _, rfl, sumZ ns cs, e13.trans e4, h4, fresh_back e13 hp, hy, sumZ_pos (fun x hx => (hS3 x hx).1) (fun x hx => (hC.2 x hx).1), sumZ_len hC.1, hc1, hS2, rfl⟩ (fun m σ' H' hw => ?_)
  obtain ⟨p', y1, y2, rfl, xs, f1, f2, f3, f4, f5, f6, f7, f8, rfl⟩ := hw
  refine ⟨decide (cap < xs.sum), et_test (ev_op (ev_sum (ev_var rfl) (sq_of f2)) (ev_var rfl) rv_I0), fun hb2 H5 e5 => ?_, fun hb2 H5 e5 => ?_⟩
  · have hlt := of_decide_eq_true hb2
    have hl : xs.sum.toNat > (xs.map half).sum.toNat := by
      have h1 := (sum_half f5).2 (by omega)
      have h2 := sum_ge f5
      omega
    refine ⟨fun σ2 H2 => ∃ m', m' < xs.sum.toNat ∧ ∃ p y1 y2, σ2 = [some (.ref a), some (.ref b), some (.int cap), some (.ref p), y1, y2] ∧ WH cap ys ns.length H m' p H2, fun σ2 H2 h => h, ?_⟩
    refine s_asgL (el_mapL ((xs.map half).map V.int) (ev_var rfl) (sq_of (e5 _ _ f2)) (by simp) (by rw [List.length_map]; omega) (fun _ => rfl) (fun i x y H6 e6 g1 g2 => ?_)) fun p2 H6 hp2 e6 h6 => ?_
    · obtain ⟨x, rfl, g3⟩ := int_at g1
      obtain ⟨y, rfl, g4⟩ := int_at g2
      rw [List.getElem?_map, g3] at g4
      cases g4
      exact ev_op (ev_var rfl) (ev_op (ev_var rfl) ev_c (rv_fdiv (by decide))) rv_I0
    · cases f4 with
      | stop h => omega
      | step _ hh =>
        exact ⟨_, hl, p2, _, _, rfl, xs.map half, (f1.trans e5).trans e6, h6, fresh_back (f1.trans e5) hp2, hh, fun x hx => by
          obtain ⟨y, hy, rfl⟩ := List.mem_map.mp hx
          exact (half_pos (f5 y hy)).1, by rw [List.length_map, f6], f7, f8, rfl⟩
  · have hle := of_decide_eq_false hb2
    cases f4 with
    | step h _ => omega
    | stop _ => exact s_ret (ev_var rfl) fun H6 e6 => q p' H6 f3 ((f1.trans e5).trans e6) (e6 _ _ (e5 _ _ f2))
def sp_pairs (K : PySem.W.Frag) : Sp := fun vs H Q _ => ∃ (a : Addr) (ns : List Int), vs = [.ref a] ∧ H a = some (.lst (ns.map V.int)) ∧ Shares ns ∧ RetR (HF.made ns) H Q
/-- where the loop stands -/
structure PairsAt (K : PySem.W.Frag) (ns : List Int) (H : Hp) (l q : Addr) (m : Nat) (H' : Hp) : Prop where
  ex : Ex H H'
  nl : H l = none
  nq : H q = none
  lq : l ≠ q
  st : ∃ (as : List Addr) (kk : HQ.Ky) (fr : List HF.Nd) (ts : List Addr) (rows : List (Int × Int)), H' l = some (.lst (as.map V.ref)) ∧ H' q = some (.lst (ts.map V.ref)) ∧ KeysT H' as kk ∧ HQ.Hq kk as ∧ (as.map kk).Perm fr ∧ HF.Sorted fr ∧ Rws H' ts rows ∧
    rows ++ HF.huff fr.length fr ((ns.length : Int) + (rows.length : Int)) = HF.made ns ∧ as.length + rows.length = ns.length ∧ m = as.length ∧ 1 ≤ as.length
theorem kle_nle {kk : HQ.Ky} {a b : Addr} : HQ.kle kk a b ↔ HF.nle (kk a) (kk b) := Iff.rfl
theorem ok_pairs {f : Addr} {fd : FuncData} (T : Txt K mg) (F : Fun K "pairs" "pairs" s_pairs f fd) (C_check_shares : Cal P w K mg base "check_shares" ["shares"] 2 (sp_chkS K)) : FnOk P w K mg base CX0 3 f fd ["shares"] (sp_pairs K) := by
  refine F.ok sc_pairs (fun vs H Q E h => by obtain ⟨a, ns, rfl, _⟩ := h; rfl) (fun cdv A outer s H vs Q E hr h => ?_)
  obtain ⟨a, ns, rfl, ha, hS, q⟩ := h
  obtain ⟨hS1, hS2, hS3⟩ := id hS
  refine ⟨_, (pss_cons (ps_expr (pe_cal C_check_shares hr (by decide) (by rfl) (pa_cons (pv 0) pa_nil)))
      (pss_cons (ps_setLc (i := 1) (own := [("number", 7), ("share", 8)]) (g := (gTup K 2 (gCons (gName 7) (gCons (gName 8) gNil)))) (tt := tYes) rfl sc_pairs.nd rfl rfl (sw_true rfl rfl rfl (by decide +kernel)) (pi_enum (by rfl) T.b_enumerate (pa_cons (pv 0) pa_nil)) (blkOk_by (N := ["shares", "free", "made", "least", "first", "following", "other", "number", "share"]) (sc := defScope s_pairs) (by decide +kernel)) (fun _ _ _ _ _ => (pg_tup rfl (pgs_cons (pg_name (i := 7) sc_pairs.nd rfl (Or.inl rfl)) (pgs_cons (pg_name (i := 8) sc_pairs.nd rfl (Or.inl rfl)) pgs_nil)))) (fun _ _ _ _ _ => pts_nil) (fun _ _ _ _ _ => (pe_tup (pa_cons (pv 8) (pa_cons (pv 7) pa_nil)))))
      (pss_cons (ps_expr (pe_callBfun (HQ.cr_heapify (HQ.hu2 hr)) (by rfl) T.g_heapify (pa_cons (pv 1) pa_nil)))
      (pss_cons (ps_set (i := 2) sc_pairs.nd rfl (Or.inl rfl) (pe_lst pa_nil))
      (pss_cons (ps_while PassesOwn.never (pt_cmpR op_gt (pe_callB call_len_seq (by rfl) T.b_len PySem.boot_len (pa_cons (pv 1) pa_nil)) pe_int (nomark _)) (pss_cons (ps_asg (pe_callBfun (HQ.cr_heappop (HQ.hu2 hr)) (by rfl) T.g_heappop (pa_cons (pv 1) pa_nil)) (pg_tup rfl (pgs_cons (pg_name (i := 3) sc_pairs.nd rfl (Or.inl rfl)) (pgs_cons (pg_name (i := 4) sc_pairs.nd rfl (Or.inl rfl)) pgs_nil))))
      (pss_cons (ps_asg (pe_callBfun (HQ.cr_heappop (HQ.hu2 hr)) (by rfl) T.g_heappop (pa_cons (pv 1) pa_nil)) (pg_tup rfl (pgs_cons (pg_name (i := 5) sc_pairs.nd rfl (Or.inl rfl)) (pgs_cons (pg_name (i := 6) sc_pairs.nd rfl (Or.inl rfl)) pgs_nil))))
      (pss_cons (ps_expr (pe_callBfun (HQ.cr_heappush (HQ.hu2 hr)) (by rfl) T.g_heappush (pa_cons (pv 1) (pa_cons (pe_tup (pa_cons (pe_op op_add (pv 3) (pv 5)) (pa_cons (pe_op op_add (pe_callB call_len_seq (by rfl) T.b_len PySem.boot_len (pa_cons (pv 0) pa_nil)) (pe_callB call_len_seq (by rfl) T.b_len PySem.boot_len (pa_cons (pv 2) pa_nil))) pa_nil))) pa_nil))))
      (pss_one (ps_expr (pe_bm PySem.F.plainAttrs_list PySem.F.slot_list_append PySem.F.type_list_append mt_append (pv 2) (pa_cons (pe_tup (pa_cons (pv 4) (pa_cons (pv 6) pa_nil))) pa_nil))))))))
      (pss_one (ps_ret (pv 2)))))))), ?_⟩
  refine q_drop (ev_cal (ea_cons (ev_var rfl) ea_nil) (spv_chkS ha hS)) fun H1 e1 => ?_
  have ha1 := e1 _ _ ha
  refine q_enumTups (fun k => [.int (ns.getD k 0), .int (k : Int)]) (ea_cons (ev_var rfl) ea_nil) (sq_of ha1) (by rw [List.length_map]; omega) (fun _ _ => rfl) (fun k x H2 e2 hx => ?_) fun l as H2 hl e2 hl2 hlen hts => ?_
  · obtain ⟨z, rfl, hz⟩ := int_at hx
    have : ns.getD k 0 = z := by rw [List.getD_eq_getElem?_getD, hz]; rfl
    rw [this]
    exact eu_tup (ea_cons (ev_var rfl) (ea_cons (ev_var rfl) ea_nil)) (by simp)
  rw [List.length_map] at hlen
  have e12 := e1.trans e2
  -- the keys
  obtain ⟨kk, hkk⟩ : ∃ kk : HQ.Ky, (∀ (i : Nat) t, as[i]? = some t → kk t = (ns.getD i 0, (i : Int))) := by
    refine ⟨fun t => (ns.getD (as.idxOf t) 0, ((as.idxOf t : Nat) : Int)), fun i t hi => ?_⟩
    have hnd : as.idxOf t = i := by
      have h1 : as.idxOf t < as.length := List.idxOf_lt_length_of_mem (List.mem_of_getElem? hi)
      have h2 : as[as.idxOf t]? = some t := by rw [List.getElem?_eq_getElem h1, List.getElem_idxOf]
      have h3 := (hts _ _ h2).symm.trans (hts _ _ hi)
      injection h3 with h3
      injection h3 with h3
      injection h3 with _ h3
      injection h3 with h3 _
      have := V.int.inj h3
      omega
    dsimp only
    rw [hnd]
  have hK : KeysT H2 as kk := fun t ht => by
    obtain ⟨i, hi⟩ := List.mem_iff_getElem?.mp ht
    rw [hkk i t hi]
    exact hts i t hi
  have hnodes : as.map kk = HF.nodes ns := by
    refine List.ext_getElem? fun i => ?_
    rw [List.getElem?_map]
    by_cases hi : i < ns.length
    · have h1 : as[i]? = some as[i] := List.getElem?_eq_getElem (by omega)
      have h2 : ns[i]? = some ns[i] := List.getElem?_eq_getElem hi
      rw [h1, HF.nodes_at h2, Option.map_some, hkk i _ h1, List.getD_eq_getElem?_getD, h2]
      rfl
    · rw [List.getElem?_eq_none (by omega), List.getElem?_eq_none (by rw [HF.nodes_len]; omega)]
      rfl
  -- heapify(free)
  refine ⟨.ref l, rfl, l, as, kk, rfl, hl2, hK.k, by omega, fun as1 hp1 hq1 => ?_⟩
  have e3 : Ex H (L2.upd H2 l (.lst (as1.map V.ref))) := Ex.mut e12 (fresh_back e1 hl)
  refine q_asgL (el_lst ea_nil (by decide)) fun q2 H3 hq2 e4 h3 => ?_
  have h3l := e4 _ _ (show L2.upd H2 l (.lst (as1.map V.ref)) l = some (.lst (as1.map V.ref)) from upd_same)
  have hlq : l ≠ q2 := fun e => by
    rw [e, upd_same] at hq2
    cases hq2
  refine q_while (fun m σ' H' => ∃ y1 y2 y3 y4 y5 y6, σ' = [some (.ref a), some (.ref l), some (.ref q2), y1, y2, y3, y4, y5, y6] ∧ PairsAt K ns H l q2 m H') as1.length ⟨_, _, _, _, _, _, rfl, e3.trans e4, fresh_back e1 hl, fresh_back e3 hq2, hlq,
    as1, kk, HF.srt (HF.nodes ns), [], [], h3l, h3, ((hK.upd hl2).sub fun t ht => hp1.mem_iff.mp ht).ex e4, hq1, ?_, HF.srt_sorted _, Rws.nil, ?_, ?_, rfl, ?_⟩ (fun m σ' H' hw => ?_)
  · rw [← hnodes]
    exact (hp1.map kk).trans (HF.srt_perm _).symm
  · rw [HF.made_eq]
    simp
  · rw [hp1.length_eq]
    simpa using hlen
  · rw [hp1.length_eq]
    omega
  obtain ⟨y1, y2, y3, y4, y5, y6, rfl, f1, f2, f3, f4, as, kk, fr, ts, rows, g1, g2, g3, g4, g5, g6, g7, g8, g9, rfl, g10⟩ := hw
  refine ⟨decide (1 < as.length), et_is (et_test (ev_op (ev_lenL (ev_var rfl) (sq_of g1)) ev_c rv_I0)) ?_, fun hb H4 e5 => ?_, fun hb H4 e5 => ?_⟩
  · rw [List.length_map]
    by_cases h : 1 < as.length
    · rw [decide_eq_true h, decide_eq_true (by omega)]
    · rw [decide_eq_false h, decide_eq_false (by omega)]
  · have hlt := of_decide_eq_true hb
    refine ⟨fun σ2 H2 => ∃ m', m' < as.length ∧ ∃ y1 y2 y3 y4 y5 y6, σ2 = [some (.ref a), some (.ref l), some (.ref q2), y1, y2, y3, y4, y5, y6] ∧ PairsAt K ns H l q2 m' H2, fun σ2 H2 h => h, ?_⟩
    have g1' := e5 _ _ g1
    refine q_pop rfl g1' (g3.ex e5) g4 (fun e => by rw [e] at hlt; simp at hlt) fun a1 as1 p1 m1 k1 s1 => ?_
    have l1 : as.length = as1.length + 1 := p1.length_eq
    obtain ⟨r1, rfl, o1, o2⟩ := HF.least_is (((p1.map kk).symm.trans g5)) (fun b hb => by
      obtain ⟨t, ht, rfl⟩ := List.mem_map.mp (show b ∈ (a1 :: as1).map kk from hb)
      exact m1 t (p1.mem_iff.mpr ht)) g6
    refine q_pop rfl upd_same s1 k1 (fun e => by rw [e] at l1; simp at l1; omega) fun a2 as2 p2 m2 k2 s2 => ?_
    have l2 : as1.length = as2.length + 1 := p2.length_eq
    obtain ⟨r2, rfl, o3, o4⟩ := HF.least_is (((p2.map kk).symm.trans o1)) (fun b hb => by
      obtain ⟨t, ht, rfl⟩ := List.mem_map.mp (show b ∈ (a2 :: as2).map kk from hb)
      exact m2 t (p2.mem_iff.mpr ht)) o2
    rw [upd_upd] at s2 ⊢
    have hql : q2 ≠ l := fun e => f4 e.symm
    have u1 : L2.upd H4 l (.lst (as2.map V.ref)) q2 = some (.lst (ts.map V.ref)) := by
      rw [upd_ne hql]
      exact e5 _ _ g2
    have ua : L2.upd H4 l (.lst (as2.map V.ref)) a = some (.lst (ns.map V.int)) := by
      rw [upd_ne (ne_of_none ha f2)]
      exact e5 _ _ (f1 _ _ ha)
    have gl : (ts.map V.ref).length = rows.length := by rw [List.length_map, g7.1]
    have f10 : Ex H (L2.upd H4 l (.lst (as2.map V.ref))) := Ex.mut (f1.trans e5) f2
    have gR : Rws (L2.upd H4 l (.lst (as2.map V.ref))) ts rows := (g7.ex e5).upd g1'
    refine q_push (w := (kk a1).1 + (kk a2).1) (k := (ns.length : Int) + (rows.length : Int)) rfl upd_same (eu_tup (ea_cons (ev_op (ev_var rfl) (ev_var rfl) rv_I0) (ea_cons (ev_is (ev_op (ev_lenL (ev_var rfl) (sq_of ua)) (ev_lenL (ev_var rfl) (sq_of u1)) rv_I0) (by rw [List.length_map, gl])) ea_nil)) (by simp)) s2 k2 (by omega) fun x H5 as3 hx e6 p3 hx2 k3 s3 => ?_
    have u2 : L2.upd H5 l (.lst (as3.map V.ref)) q2 = some (.lst (ts.map V.ref)) := by
      rw [upd_ne hql]
      exact e6 _ _ u1
    have f11 : Ex H (L2.upd H5 l (.lst (as3.map V.ref))) := Ex.mut (f10.trans e6) f2
    have gR2 : Rws (L2.upd H5 l (.lst (as3.map V.ref))) ts rows := (gR.ex e6).upd (e6 _ _ upd_same)
    refine s_appU u2 (ev_var rfl) (eu_tup (ea_cons (ev_var rfl) (ea_cons (ev_var rfl) ea_nil)) (by simp)) (by rw [gl]; omega) fun t H6 ht e7 h7 => ?_
    have l3 : as3.length = as2.length + 1 := p3.length_eq
    refine ⟨as3.length, by omega, _, _, _, _, _, _, rfl, Ex.mut (f11.trans e7) f3, f2, f3, f4, as3, kkx kk x _, HF.ins ((kk a1).1 + (kk a2).1, (ns.length : Int) + (rows.length : Int)) r2, ts ++ [t], rows ++ [((kk a1).2, (kk a2).2)], ?_, ?_, (s3.ex e7).upd (e7 _ _ u2), k3, ?_, HF.ins_sorted _ o4, ?_, ?_, ?_, rfl, by omega⟩
    · rw [upd_ne f4]
      exact e7 _ _ upd_same
    · rw [upd_same, List.map_append]
      rfl
    · refine ((p3.map _).trans ?_).trans (HF.ins_perm _ _).symm
      rw [List.map_cons, kkx_x]
      refine List.Perm.cons _ ?_
      rw [List.map_congr_left hx2]
      exact o3
    · refine Rws.snoc ((gR2.ex e7).upd (e7 _ _ u2)) ?_
      rw [upd_ne (ne_of h7 (e7 _ _ u2) fun z => nomatch z)]
      exact h7
    · rw [← g8, HF.huff_two, List.append_assoc, List.length_append]
      show rows ++ ([((kk a1).2, (kk a2).2)] ++ _) = rows ++ ((kk a1).2, (kk a2).2) :: _
      congr 2
    · rw [List.length_append]
      simp
      omega
  · have hle := of_decide_eq_false hb
    have hfr : fr.length ≤ 1 := by rw [← g5.length_eq, List.length_map]; omega
    rw [HF.huff_end hfr, List.append_nil] at g8
    exact s_ret (ev_var rfl) fun H5 e6 => q q2 ts H5 f3 ((f1.trans e5).trans e6) (e6 _ _ (e5 _ _ g2)) (by rw [← g8]; exact (g7.ex e5).ex e6)
theorem er_pairs {σ : L2.St} {H : Hp} {ta : TA} {a : Addr} {ns : List Int} {E : XK} (h : EvA ta σ H [.ref a]) (ha : H a = some (.lst (ns.map V.int))) (hS : Shares ns) :
    ∀ H1, Ex H H1 → ∀ Q : VK, (∀ (p : Addr) (ts : List Addr) H2, H1 p = none → Ex H1 H2 → H2 p = some (.lst (ts.map V.ref)) → Rws H2 ts (HF.made ns) → Q (.ref p) H2) → tCall (sp_pairs K) [] E ta σ H1 Q := fun H1 e1 Q q =>
  h H1 e1 _ fun H2 e2 => ⟨a, ns, rfl, (e1.trans e2) _ _ ha, hS, fun p ts H3 hp e3 h3 hR => q p ts H3 (fresh_back e2 hp) (e2.trans e3) h3 hR⟩
theorem q_pairs {σ : L2.St} {H : Hp} {ta : TA} {a : Addr} {ns : List Int} {E : XK} {tz : TS} {D : Ends} {i : Nat} (h : EvA ta σ H [.ref a]) (ha : H a = some (.lst (ns.map V.int))) (hS : Shares ns)
    (k : ∀ (p : Addr) (ts : List Addr) H1, H p = none → Ex H H1 → H1 p = some (.lst (ts.map V.ref)) → Rws H1 ts (HF.made ns) → tz D (σ.set i (some (.ref p))) H1) : tSeq (tAsg (tCall (sp_pairs K) [] E ta) (gName i)) tz D σ H :=
  er_pairs h ha hS H (Ex.refl H) _ fun p ts H1 hp e1 h1 hR => k p ts H1 hp e1 h1 hR
theorem q_pairsN {σ : L2.St} {H : Hp} {te : TE} {ns : List Int} {E : XK} {tz : TS} {D : Ends} {i : Nat} (h : EvL te σ H (ns.map V.int)) (hS : Shares ns)
    (k : ∀ (p : Addr) (ts : List Addr) H1, H p = none → Ex H H1 → H1 p = some (.lst (ts.map V.ref)) → Rws H1 ts (HF.made ns) → tz D (σ.set i (some (.ref p))) H1) : tSeq (tAsg (tCall (sp_pairs K) [] E (tCons te tNil)) (gName i)) tz D σ H :=
  h H (Ex.refl H) _ fun r H1 hr1 e1 h1 => ⟨r, ns, rfl, h1, hS, fun p ts H3 hp e3 h3 hR => k p ts H3 (fresh_back e1 hp) (e1.trans e3) h3 hR⟩
def sp_codes (K : PySem.W.Frag) : Sp := fun vs H Q _ => ∃ (a : Addr) (ns : List Int), vs = [.ref a] ∧ H a = some (.lst (ns.map V.int)) ∧ Shares ns ∧ RetL (wv (HF.codes ns)) H Q
theorem spl_codes {H : Hp} {a : Addr} {ns : List Int} (ha : H a = some (.lst (ns.map V.int))) (hS : Shares ns) : SpL (sp_codes K) [.ref a] H (wv (HF.codes ns)) := spl fun H1 e1 Q E q => ⟨a, ns, rfl, e1 _ _ ha, hS, q⟩
theorem str0 : V.str (PySem.Str.ofString "") = V.str (tx []) := congrArg V.str (by decide +kernel)
theorem strB0 : PySem.Str.ofString "0" = tx [48] := by decide +kernel
theorem strB1 : PySem.Str.ofString "1" = tx [49] := by decide +kernel
theorem ok_codes {f : Addr} {fd : FuncData} (T : Txt K mg) (F : Fun K "codes" "codes" s_codes f fd) (C_pairs : Cal P w K mg base "pairs" ["shares"] 3 (sp_pairs K)) : FnOk P w K mg base CX0 4 f fd ["shares"] (sp_codes K) := by
  refine F.ok sc_codes (fun vs H Q E h => by obtain ⟨a, ns, rfl, _⟩ := h; rfl) (fun cdv A outer s H vs Q E hr h => ?_)
  obtain ⟨a, ns, rfl, ha, hS, q⟩ := h
  obtain ⟨hS1, hS2, hS3⟩ := id hS
  refine ⟨_, (pss_cons (ps_set (i := 1) sc_codes.nd rfl (Or.inl rfl) (pe_cal C_pairs hr (by decide) (by rfl) (pa_cons (pv 0) pa_nil)))
      (pss_cons (ps_set (i := 2) sc_codes.nd rfl (Or.inl rfl) (pe_op op_rep (pe_lst (pa_cons pe_str pa_nil)) (pe_op op_add (pe_callB call_len_seq (by rfl) T.b_len PySem.boot_len (pa_cons (pv 0) pa_nil)) (pe_callB call_len_seq (by rfl) T.b_len PySem.boot_len (pa_cons (pv 1) pa_nil)))))
      (pss_cons (ps_for PassesOwn.never rfl (pi_revR (by rfl) T.b_reversed (prg_1 (by rfl) T.b_range (pe_callB call_len_seq (by rfl) T.b_len PySem.boot_len (pa_cons (pv 1) pa_nil)))) (pg_name (i := 3) sc_codes.nd rfl (Or.inl rfl)) (pss_cons (ps_asg (pe_ix ix_list (pv 1) (pv 3) (fun _ _ => rfl)) (pg_tup rfl (pgs_cons (pg_name (i := 4) sc_codes.nd rfl (Or.inl rfl)) (pgs_cons (pg_name (i := 5) sc_codes.nd rfl (Or.inl rfl)) pgs_nil))))
      (pss_cons (ps_set (i := 6) sc_codes.nd rfl (Or.inl rfl) (pe_ix ix_list (pv 2) (pe_op op_add (pe_callB call_len_seq (by rfl) T.b_len PySem.boot_len (pa_cons (pv 0) pa_nil)) (pv 3)) (fun _ _ => rfl)))
      (pss_cons (ps_asg (pe_op op_add_str (pv 6) pe_str) (pg_sub (pv 2) (pv 4) set_list))
      (pss_one (ps_asg (pe_op op_add_str (pv 6) pe_str) (pg_sub (pv 2) (pv 5) set_list)))))))
      (pss_one (ps_ret (pe_slice sl_list (pv 2) po_none (po_some (pe_callB call_len_seq (by rfl) T.b_len PySem.boot_len (pa_cons (pv 0) pa_nil))))))))), ?_⟩
  refine q_pairs (ea_cons (ev_var rfl) ea_nil) ha hS fun p ts H1 hp e1 h1 hR => ?_
  have ha1 := e1 _ _ ha
  have hml := HF.made_len ns
  have htl : (ts.map V.ref).length = ns.length - 1 := by rw [List.length_map, hR.1, hml]
  have hal : (ns.map V.int).length = ns.length := by rw [List.length_map]
  refine q_asgL (el_repE (n := ns.length + (ns.length - 1)) (el_lst (ea_cons (ev_is ev_c str0) ea_nil) (by simp)) (ev_is (ev_op (ev_lenL (ev_var rfl) (sq_of ha1)) (ev_lenL (ev_var rfl) (sq_of h1)) rv_I0) (by rw [hal, htl]; rfl)) (by omega)) fun l H2 hl e2 h2 => ?_
  have D0l : (List.replicate (ns.length + (ns.length - 1)) ([] : List Nat)).length = ns.length + (ns.length - 1) := List.length_replicate
  have e12 := e1.trans e2
  have a4 := HF.at4_start hS1
  refine q_forRev (n := ns.length - 1) (ev_is (ev_lenL (ev_var rfl) (sq_of (e2 _ _ h1))) (by rw [htl])) (by omega)
    (fun i σ' H' => ∃ y1 y2 y3 y4, σ' = [some (.ref a), some (.ref p), some (.ref l), y1, y2, y3, y4] ∧ Ex H1 H' ∧ H' l = some (.lst (wv (HF.fill (ns.length + (ns.length - 1 - i)) ((HF.made ns).drop (ns.length - 1 - i)) (List.replicate (ns.length + (ns.length - 1)) [])))))
    (fun H3 e3 => ⟨_, _, _, _, rfl, e2.trans e3, ?_⟩) (fun i σ' H' hi w => ?_) (fun σ' H' w => ?_)
  · rw [List.drop_of_length_le (by rw [hml]; omega)]
    exact e3 _ _ h2
  · obtain ⟨y1, y2, y3, y4, rfl, f1, f2⟩ := w
    have hj : ns.length - 1 - i = (ns.length - 1 - 1 - i) + 1 := by omega
    rw [hj] at f2
    generalize ns.length - 1 - 1 - i = j at hj f2 ⊢
    have hjl : j < (HF.made ns).length := by rw [hml]; omega
    have hrow : (HF.made ns)[j]? = some (HF.made ns)[j] := List.getElem?_eq_getElem hjl
    obtain ⟨rg1, rg2, rg3, rg4⟩ := HF.made_row hS1 hrow
    have hnx : ns.length - 1 - (i + 1) = j := by omega
    rw [hnx, List.drop_eq_getElem_cons hjl]
    generalize (HF.made ns)[j] = r at hrow rg1 rg2 rg3 rg4 ⊢
    generalize hD : HF.fill (ns.length + (j + 1)) ((HF.made ns).drop (j + 1)) (List.replicate (ns.length + (ns.length - 1)) []) = D at f2
    have hDl : D.length = ns.length + (ns.length - 1) := by rw [← hD, HF.fill_len, D0l]
    have hnew : HF.fill (ns.length + j) (r :: (HF.made ns).drop (j + 1)) (List.replicate (ns.length + (ns.length - 1)) []) = HF.put D (ns.length + j) r := by
      rw [← hD]
      rfl
    rw [hnew]
    have hp' := f1 _ _ h1
    refine q_row (r := r) (ev_var rfl) (ev_var rfl) (sq_of hp') (hR.ex f1) hrow fun H3 e3 => ?_
    have l3 := e3 _ _ f2
    have b0 : ((ns.length + j : Nat) : Int) < (D.length : Int) := by rw [hDl]; omega
    have a3 := e3 _ _ (f1 _ _ ha1)
    refine q_asg (ev_op (ev_var rfl) (ev_is (ev_op (ev_lenL (ev_var rfl) (sq_of a3)) (ev_var rfl) rv_I0) (w := .int ((ns.length + j : Nat) : Int)) (by rw [hal]; rfl)) (rv_ixL (sq_of l3) (wv_at (by omega) b0))) fun H4 e4 => ?_
    have bl : (HF.wat D ((ns.length + j : Nat) : Int)).length + 1 ≤ sizeLine := by
      obtain ⟨W, L, h4⟩ : ∃ W L, HF.At4 ns.length (j + 1) W L ((HF.made ns).drop (j + 1)) := HF.at4_drop hS1 (by rw [hml]; omega)
      have := (HF.fill_bits D0l (fun z hz => (List.mem_replicate.mp hz).2) h4 ((ns.length + j : Nat) : Int) (by omega)).2
      rw [hD, List.length_drop, hml] at this
      exact sz_of (by omega)
    have l4 := e4 _ _ l3
    refine q_setL (j := r.1.toNat) (v := .str (tx (HF.wat D ((ns.length + j : Nat) : Int) ++ [48]))) l4 (ev_is (ev_op (ev_var rfl) (ev_is ev_c (congrArg V.str strB0)) (rv_addS (by rw [tx_len, tx_len]; exact bl))) (by rw [tx_app])) (ev_var rfl) (ev_is (ev_var rfl) (by rw [show ((r.1.toNat : Nat) : Int) = r.1 by omega])) (by rw [wv_len, hDl]; omega) fun H5 e5 => ?_
    rw [wv_set]
    refine s_setL (j := r.2.toNat) (v := .str (tx (HF.wat D ((ns.length + j : Nat) : Int) ++ [49]))) upd_same (ev_is (ev_op (ev_var rfl) (ev_is ev_c (congrArg V.str strB1)) (rv_addS (by rw [tx_len, tx_len]; exact bl))) (by rw [tx_app])) (ev_var rfl) (ev_is (ev_var rfl) (by rw [show ((r.2.toNat : Nat) : Int) = r.2 by omega])) (by rw [wv_len, List.length_set, hDl]; omega) fun H6 e6 => ?_
    rw [wv_set]
    exact ⟨_, _, _, _, rfl, Ex.mut ((Ex.mut (((f1.trans e3).trans e4).trans e5) hl).trans e6) hl, upd_same⟩
  · obtain ⟨y1, y2, y3, y4, rfl, f1, f2⟩ := w
    rw [Nat.sub_self, List.drop_zero, Nat.add_zero] at f2
    have ec : (wv (HF.fill ns.length (HF.made ns) (List.replicate (ns.length + (ns.length - 1)) []))).take ns.length = wv (HF.codes ns) := by
      unfold HF.codes HF.wordsAll wv
      rw [List.map_take]
    refine s_retL (el_to (n := ns.length) (ev_var rfl) (ev_is (ev_lenL (ev_var rfl) (sq_of (f1 _ _ ha1))) (by rw [hal])) (sq_of f2)) fun r H3 hr3 e3 h3 => q r H3 (fresh_back (e1.trans f1) hr3) ((e1.trans f1).trans e3) ?_
    rw [ec] at h3
    exact h3
def sp_counted : Sp := fun vs H Q _ => ∃ ss bs : List Nat, vs = [.str (tx ss), .str (tx bs)] ∧ ss.length ≤ 1000 ∧ RetL ((countsOf ss bs).map V.int) H Q
theorem ok_counted {f : Addr} {fd : FuncData} (T : Txt K mg) (F : Fun K "counted" "counted" s_counted f fd) : FnOk P w K mg base CX0 1 f fd ["signs", "block"] sp_counted := by
  refine F.ok sc_counted (fun vs H Q E h => by obtain ⟨ss, bs, rfl, _⟩ := h; rfl) (fun cdv A outer s H vs Q E hr h => ?_)
  obtain ⟨ss, bs, rfl, hl, q⟩ := h
  refine ⟨_, (pss_one (ps_ret (pe_lc (own := [("sign", 2)]) (g := (gName 2)) (tt := tYes) rfl sc_counted.nd (pi_str (pv 0)) (blkOk_by (N := ["signs", "block", "sign"]) (sc := defScope s_counted) (by decide +kernel)) (fun _ _ _ _ _ => (pg_name (i := 2) sc_counted.nd rfl (Or.inl rfl))) (fun _ _ _ _ _ => pts_nil) (fun _ _ _ _ _ => (pe_bmK (K := K) rfl PySem.F.plainAttrs_str PySem.F.slot_str_count PySem.F.type_str_count mt_count (pv 1) (pa_cons (pv 2) pa_nil)))))), ?_⟩
  refine s_retL (el_mapS ((countsOf ss bs).map V.int) (ev_var rfl) (by simp [countsOf]) (by omega) (fun _ => rfl) (fun i c y H1 e1 h1 h2 => ?_)) fun p H1 hp e1 h1 => q p H1 hp e1 h1
  obtain ⟨z, rfl, h3⟩ := int_at h2
  unfold countsOf at h3
  rw [List.getElem?_map, h1] at h3
  cases h3
  exact ev_is (ev_bmS (ev_var rfl) (ea_cons (ev_var rfl) ea_nil) (z := .int (Txt.count (tx bs) (tx [c]))) fun H2 _ Q q => ⟨_, _, rfl, rfl, q H2 (Ex.refl _)⟩) (by rw [count_one])
def sp_law (K : PySem.W.Frag) : Sp := fun vs H Q _ => ∃ (a : Addr) (ns : List Int), vs = [.ref a] ∧ SqL K H a (ns.map V.int) ∧ ns.length ≤ 63 ∧ RetV (.bl true) H Q
theorem law_start {H : Hp} {a : Addr} {ns : List Int} (hl : ns.length ≤ 63) (hS : SqL K H a (ns.map V.int)) : sp_law K [.ref a] H (fun v _ => v = .bl true) (fun _ _ _ => False) := ⟨a, ns, rfl, hS, hl, fun _ _ => rfl⟩
def sp_cell (K : PySem.W.Frag) : Sp := fun vs H Q _ => ∃ (a : Addr) (ns : List Int) (j : Nat), vs = [.ref a, .int (j : Int)] ∧ SqL K H a (ns.map V.int) ∧ RetV (.int (cel ns j)) H Q
theorem spv_cell {H : Hp} {a : Addr} {ns : List Int} {j : Nat} {i : Int} (hs : SqL K H a (ns.map V.int)) (e : i = (j : Int)) : SpV (sp_cell K) [.ref a, .int i] H (.int (cel ns j)) :=
  spv fun H1 e1 Q E q => ⟨a, ns, j, by rw [e], ex_l e1 hs, q⟩
theorem ok_cell_at {f : Addr} {fd : FuncData} (T : Txt K mg) (F : Fun K "_law_cell_at" "_law_cell_at" s_cell_at f fd) : FnOk P w K mg base CX0 1 f fd ["_law_script", "_law_k"] (sp_cell K) := by
  refine F.ok sc_cell_at (fun vs H Q E h => by obtain ⟨a, ns, j, rfl, _⟩ := h; rfl) (fun cdv A outer s H vs Q E hr h => ?_)
  obtain ⟨a, ns, j, rfl, hs, q⟩ := h
  refine ⟨_, (pss_cons (ps_if (pt_cmpR op_lt (pv 1) (pe_callB call_len_seq (by rfl) T.b_len PySem.boot_len (pa_cons (pv 0) pa_nil)) (nomark _)) (pss_one (ps_ret (pe_ix ix_list (pv 0) (pv 1) (fun _ _ => rfl)))) pss_nil)
      (pss_one (ps_ret pe_int))), ?_⟩
  refine q_when (et_test (ev_op (ev_var rfl) (ev_lenL (ev_var rfl) hs) rv_I0)) (fun hb H1 e1 => ?_) (fun hb H1 e1 => ?_)
  · have hj : j < ns.length := by
      have h1 := of_decide_eq_true hb
      rw [List.length_map] at h1
      omega
    exact s_ret (ev_op (ev_var rfl) (ev_var rfl) (rv_ixL (ex_l e1 hs) (cel_in hj))) fun H2 e2 => q H2 (e1.trans e2)
  · have hj : ¬ j < ns.length := by
      have h1 := of_decide_eq_false hb
      rw [List.length_map] at h1
      omega
    rw [cel_out hj] at q
    exact s_ret ev_c fun H2 e2 => q H2 (e1.trans e2)
def sp_many : Sp := fun vs H Q _ => ∃ c : Int, vs = [.int c] ∧ RetV (.int (manyOf c)) H Q
theorem ok_many_by {f : Addr} {fd : FuncData} (T : Txt K mg) (F : Fun K "_law_many_by" "_law_many_by" s_many_by f fd) : FnOk P w K mg base CX0 1 f fd ["_law_cell"] sp_many := by
  refine F.ok sc_many_by (fun vs H Q E h => by obtain ⟨c, rfl, _⟩ := h; rfl) (fun cdv A outer s H vs Q E hr h => ?_)
  obtain ⟨c, rfl, q⟩ := h
  refine ⟨_, (pss_cons (ps_if (pt_cmpR op_eq (pe_op op_mod (pe_op op_fdiv (pv 0) pe_int) pe_int) pe_int (nomark _)) (pss_one (ps_ret (pe_op op_add pe_int (pe_op op_mod (pe_op op_fdiv (pv 0) pe_int) pe_int)))) pss_nil)
      (pss_one (ps_ret (pe_op op_add pe_int (pe_op op_mod (pv 0) pe_int))))), ?_⟩
  refine q_when (et_test (ev_op (ev_op (ev_op (ev_var rfl) ev_c (rv_fdiv (by decide))) ev_c (rv_mod (by decide))) ev_c (rv_eq rfl))) (fun hb H1 e1 => ?_) (fun hb H1 e1 => ?_)
  · have hc : c / 6 % 5 = 1 := V.int.inj (of_decide_eq_true hb)
    refine s_ret (ev_op ev_c (ev_op (ev_op (ev_var rfl) ev_c (rv_fdiv (by decide))) ev_c (rv_mod (by decide))) rv_I0) fun H2 e2 => ?_
    have := q H2 (e1.trans e2)
    unfold manyOf at this
    rw [if_pos hc] at this
    exact this
  · have hc : ¬ c / 6 % 5 = 1 := fun z => of_decide_eq_false hb (by rw [z])
    refine s_ret (ev_op ev_c (ev_op (ev_var rfl) ev_c (rv_mod (by decide))) rv_I0) fun H2 e2 => ?_
    have := q H2 (e1.trans e2)
    unfold manyOf at this
    rw [if_neg hc] at this
    exact this
def sp_signs : Sp := fun vs H Q _ => ∃ (c : Int) (m : Nat), vs = [.int c, .int (m : Int)] ∧ m ≤ 40 ∧ RetV (.str (tx (signsOf c m))) H Q
theorem ok_signs_by {f : Addr} {fd : FuncData} (T : Txt K mg) (F : Fun K "_law_signs_by" "_law_signs_by" s_signs_by f fd) : FnOk P w K mg base CX0 1 f fd ["_law_cell", "_law_many"] sp_signs := by
  refine F.ok sc_signs_by (fun vs H Q E h => by obtain ⟨c, m, rfl, _⟩ := h; rfl) (fun cdv A outer s H vs Q E hr h => ?_)
  obtain ⟨c, m, rfl, hm, q⟩ := h
  refine ⟨_, (pss_cons (ps_set (i := 2) sc_signs_by.nd rfl (Or.inr rfl) pe_str)
      (pss_cons (ps_set (i := 2) sc_signs_by.nd rfl (Or.inr rfl) (pe_op op_add_str (pv 2) pe_str))
      (pss_cons (ps_set (i := 3) sc_signs_by.nd rfl (Or.inr rfl) (pe_op op_add pe_int (pe_op op_mul pe_int (pe_op op_mod (pe_op op_fdiv (pv 0) pe_int) pe_int))))
      (pss_one (ps_ret (pe_bm PySem.F.plainAttrs_str PySem.F.slot_str_join PySem.F.type_str_join mt_join pe_str (pa_cons (pe_lc (own := [("_law_k", 4)]) (g := (gName 4)) (tt := tYes) rfl sc_signs_by.nd (pi_range1 (by rfl) T.b_range (pa_cons (pv 1) pa_nil)) (blkOk_by (N := ["_law_cell", "_law_many", "_law_some", "_law_step", "_law_k"]) (sc := defScope s_signs_by) (by decide +kernel)) (fun _ _ _ _ _ => (pg_name (i := 4) sc_signs_by.nd rfl (Or.inl rfl))) (fun _ _ _ _ _ => pts_nil) (fun _ _ _ _ _ => (pe_ix ix_str (pv 2) (pe_op op_mod (pe_op op_add (pv 0) (pe_op op_mul (pv 4) (pv 3))) pe_int) (fun _ _ => rfl)))) pa_nil))))))), ?_⟩
  refine q_asg ev_c fun H1 e1 => ?_
  refine q_asg (ev_is (ev_op (ev_var rfl) ev_c (rv_addS (by decide +kernel))) (w := .str (tx all94)) (congrArg V.str some94)) fun H2 e2 => ?_
  refine q_asg (ev_op ev_c (ev_op ev_c (ev_op (ev_op (ev_var rfl) ev_c (rv_fdiv (by decide))) ev_c (rv_mod (by decide))) (rv_mul (.inl (by decide)))) rv_I0) fun H3 e3 => ?_
  have jn := join_ones (signsOf c m)
  refine s_ret (ev_is (ev_joinN (ys := (signsOf c m).map fun c => tx [c]) (sep := tx []) ev_c ?_ ?_) (w := .str (tx (signsOf c m))) (by rw [jn])) fun H4 e4 => q H4 (((e1.trans e2).trans e3).trans e4)
  · rw [List.map_map]
    refine el_mapR _ (ea_cons (ev_var rfl) ea_nil) ⟨by omega, by omega⟩ (by simp [signsOf_len]) (fun _ => rfl) (fun i y H4 e4 hi hy => ?_)
    have ey := signs_at hy
    subst ey
    refine ev_op (ev_var rfl) (ev_op (ev_op (ev_var rfl) (ev_op (ev_var rfl) (ev_var rfl) (rv_mul (.inl ⟨by omega, by omega⟩))) rv_I0) ev_c (rv_mod (by decide))) (rv_ixS (by rw [tx_len, all94_len]; omega) (all94_at (by omega) (by omega)))
  · rw [ones_sum, signsOf_len, List.length_map, signsOf_len]
    show m + m * 0 ≤ 16777216
    omega
def sp_chkG : Sp := fun vs H Q _ => ∃ ss : List Nat, vs = [.str (tx ss)] ∧ Signs ss ∧ RetV .non H Q
theorem ok_check_signs {f : Addr} {fd : FuncData} (T : Txt K mg) (F : Fun K "check_signs" "check_signs" s_check_signs f fd) : FnOk P w K mg base CX0 1 f fd ["signs"] sp_chkG := by
  refine F.ok sc_check_signs (fun vs H Q E h => by obtain ⟨ss, rfl, _⟩ := h; rfl) (fun cdv A outer s H vs Q E hr h => ?_)
  obtain ⟨ss, rfl, ⟨h1, h2, h3, h4⟩, q⟩ := h
  refine ⟨_, (pss_cons (ps_if (PW.pt (pw_or (pt_not (pt_val (pe_callB call_isi (by rfl) T.b_isinstance (by decide +kernel) (pa_cons (pv 0) (pa_cons (pe_bltn (v := .ty "str") (by rfl) T.b_str (by decide +kernel) rfl) pa_nil))))) (pw_or1 (pt_not (pt_chain op_le op_le pe_int (pe_callB call_len_str (by rfl) T.b_len PySem.boot_len (pa_cons (pv 0) pa_nil)) (pe_globX (by rfl) T.g_MOST_SHARES)))))) (pss_one ps_never) pss_nil)
      (pss_one (ps_for PassesOwn.never rfl (pi_str (pv 0)) (pg_name (i := 1) sc_check_signs.nd rfl (Or.inl rfl)) (pss_cons (ps_if (pt_not (pt_chain op_le_str op_le_str pe_str (pv 1) pe_str)) (pss_one ps_never) pss_nil)
      (pss_one (ps_if (pt_cmpR op_gt (pe_bm PySem.F.plainAttrs_str PySem.F.slot_str_count PySem.F.type_str_count mt_count (pv 0) (pa_cons (pv 1) pa_nil)) pe_int (nomark _)) (pss_one ps_never) pss_nil)))))), ?_⟩
  refine q_when (b := false) (et_or (a := false) (et_not (a := true) (et_B (ev_isi (ev_var rfl) ev_c (fun _ _ => ty_str) (by decide +kernel)))) fun _ => et_not (a := true) (et_is (et_test (ev_chain ev_c (ev_lenZ (ev_var rfl) (by rw [tx_len]; exact sz_of (by omega))) ev_c)) ?_)) (fun hx => nomatch hx) (fun _ H1 e1 => ?_)
  · rw [tx_len, decide_eq_true (by omega), decide_eq_true (by omega)]
    rfl
  refine s_forS (ev_var rfl) (fun i σ' H' => Ex H1 H' ∧ ∃ y1, σ' = [some (.str (tx ss)), y1]) (fun H2 e2 => ⟨e2, none, rfl⟩) (fun i c σ' H' hc p => ?_) (fun σ' H' p => ?_)
  · obtain ⟨e2, y1, rfl⟩ := p
    have hm := List.mem_of_getElem? hc
    obtain ⟨g1, g2⟩ := h4 c hm
    refine q_when (b := false) (et_not (a := true) (et_is (et_test (ev_chainR (ev_is ev_c (congrArg V.str strB32)) (ev_var rfl) rv_leS (fun _ => ev_is ev_c (congrArg V.str strB126)) (fun _ => rv_leS))) ?_)) (fun hx => nomatch hx) (fun _ H3 e3 => ?_)
    · rw [decide_eq_true g1, decide_eq_true g2]
      rfl
    refine s_when (b := false) (et_is (et_test (ev_op (ev_is (ev_bmS (ev_var rfl) (ea_cons (ev_var rfl) ea_nil) (z := .int (Txt.count (tx ss) (tx [c]))) fun H2 _ Q q => ⟨_, _, rfl, rfl, q H2 (Ex.refl _)⟩) (by rw [count_one])) ev_c rv_I0)) ?_) (fun hx => nomatch hx) (fun _ H4 e4 => ?_)
    · exact decide_eq_false (by have := count_le1 h3 (c := c); omega)
    · exact ⟨(e2.trans e3).trans e4, _, rfl⟩
  · obtain ⟨e2, y1, rfl⟩ := p
    exact q H' (e1.trans e2)
def sp_Binit (mg : Str → Option Value) : Sp := fun vs H Q _ => ∃ (p dx : Addr) (B : Bk), vs = [.ref p, .str (tx B.ss), .int (B.size : Int), .int B.cap] ∧ H p = some (.ins (cadr mg "Book") dx []) ∧ BookOk B ∧ ∀ H', ExS [p] H H' → BookAt mg H' p B → Q .non H'
theorem q_book {mg : Str → Option Value} {σ : L2.St} {H : Hp} {t : TA} {D : Ends} {tz : TS} {E : XK} {i : Nat} {B : Bk} (ha : EvA t σ H [.str (tx B.ss), .int (B.size : Int), .int B.cap]) (hB : BookOk B)
    (k : ∀ b H2, H b = none → Ex H H2 → BookAt mg H2 b B → tz D (σ.set i (some (.ref b))) H2) : tSeq (tAsg (tMake (cadr mg "Book") (sp_Binit mg) [] E t) (gName i)) tz D σ H :=
  q_make ha fun H1 x dx e1 hx hd hn => ⟨x, dx, B, rfl, upd_same, hB, fun H2 e2 h2 => ⟨rfl, k x H2 (fresh_back e1 hx) (e1.trans (ex_made hx hd e2)) h2⟩⟩
theorem er_book {mg : Str → Option Value} {σ : L2.St} {H : Hp} {t : TA} {Q : VK} {E : XK} {B : Bk} (ha : EvA t σ H [.str (tx B.ss), .int (B.size : Int), .int B.cap]) (hB : BookOk B)
    (k : ∀ b H2, H b = none → Ex H H2 → BookAt mg H2 b B → Q (.ref b) H2) : tMake (cadr mg "Book") (sp_Binit mg) [] E t σ H Q :=
  er_mkr ha fun H1 x dx e1 hx hd hn => ⟨x, dx, B, rfl, upd_same, hB, fun H2 e2 h2 => ⟨rfl, k x H2 (fresh_back e1 hx) (e1.trans (ex_made hx hd e2)) h2⟩⟩
theorem ok_Book___init__ {f : Addr} {fd : FuncData} (T : Txt K mg) (F : Fun K "__init__" "Book.__init__" s_Book___init__ f fd) (C_check_signs : Cal P w K mg base "check_signs" ["signs"] 1 sp_chkG) (C_is_whole : Cal P w K mg base "is_whole" ["value", "low", "high"] 1 sp_isw) : FnOk P w K mg base CX0 2 f fd ["self", "signs", "size", "cap"] (sp_Binit mg) := by
  refine F.ok sc_Book___init__ (fun vs H Q E h => by obtain ⟨p, dx, B, rfl, _⟩ := h; rfl) (fun cdv A outer s H vs Q E hr h => ?_)
  obtain ⟨p, dx, B, rfl, hp, hB, q⟩ := h
  obtain ⟨hS, h1, h2, h3, h4⟩ := id hB
  refine ⟨_, (pss_cons (ps_expr (pe_cal C_check_signs hr (by decide) (by rfl) (pa_cons (pv 1) pa_nil)))
      (pss_cons (ps_if (pt_not (pt_val (pe_cal C_is_whole hr (by decide) (by rfl) (pa_cons (pv 2) (pa_cons pe_int (pa_cons (pe_globX (by rfl) T.g_LONGEST_BLOCK) pa_nil)))))) (pss_one ps_never) pss_nil)
      (pss_cons (ps_if (pt_not (pt_val (pe_cal C_is_whole hr (by decide) (by rfl) (pa_cons (pv 3) (pa_cons (pe_callB call_len_str (by rfl) T.b_len PySem.boot_len (pa_cons (pv 1) pa_nil)) (pa_cons (pe_globX (by rfl) T.g_GREATEST_CAP) pa_nil)))))) (pss_one ps_never) pss_nil)
      (pss_cons (ps_fld (pv 0) (pv 1) rfl)
      (pss_cons (ps_fld (pv 0) (pv 2) rfl)
      (pss_one (ps_fld (pv 0) (pv 3) rfl))))))), ?_⟩
  refine q_drop (ev_cal (ea_cons (ev_var rfl) ea_nil) (spv fun _ _ Q E q => ⟨B.ss, rfl, hS, q⟩)) fun H1 e1 => ?_
  refine q_when (b := false) (et_not (a := true) (et_B (ev_cal (ea_cons (ev_var rfl) (ea_cons ev_c (ea_cons ev_c ea_nil))) (spv fun H3 _ Q E q => ⟨(B.size : Int), 1, 99, rfl, isw_q (by omega) (by omega) q⟩)))) (fun hx => nomatch hx) (fun _ H2 e2 => ?_)
  refine q_when (b := false) (et_not (a := true) (et_B (ev_cal (ea_cons (ev_var rfl) (ea_cons (ev_lenZ (ev_var rfl) (by rw [tx_len]; have := hS.2.1; exact sz_of (by omega))) (ea_cons ev_c ea_nil))) (spv fun H3 _ Q E q => ⟨B.cap, (B.ss.length : Int), 1000000, by rw [tx_len], isw_q h3 h4 q⟩)))) (fun hx => nomatch hx) (fun _ H3 e3 => ?_)
  have e13 := (e1.trans e2).trans e3
  refine q_fld (ev_var rfl) (ev_var rfl) (e13 _ _ hp) T.cl_Book T.na_Book_signs (by show 0 < 1000; decide) fun H4 e4 => ?_
  refine q_fld (ev_var rfl) (ev_var rfl) upd_same T.cl_Book T.na_Book_size (by show 1 < 1000; decide) fun H5 e5 => ?_
  refine s_fld (ev_var rfl) (ev_var rfl) upd_same T.cl_Book T.na_Book_cap (by (repeat (first | rw [pf_eq] | rw [pf_nil] | rw [pf_ne (by decide +kernel)])); show 2 < 1000; decide) fun H6 e6 => ?_
  have hm : p ∈ [p] := by simp
  refine q _ ((((((ExS.of (e13.trans e4)).upd hm).trans (ExS.of e5)).upd hm).trans (ExS.of e6)).upd hm) ⟨dx, ?_⟩
  rw [upd_same]
  unfold bf
  repeat (first | rw [pf_eq] | rw [pf_nil] | rw [pf_ne (by decide +kernel)])
def sp_Linit (mg : Str → Option Value) : Sp := fun vs H Q _ => ∃ (l b dx : Addr) (B : Bk) (av : List Addr), vs = [.ref l, .ref b] ∧ H l = some (.ins (cadr mg "Learner") dx []) ∧ BookAt mg H b B ∧ b ≠ l ∧ BookOk B ∧ Taken H av ∧ ∀ H', ExS [l] H H' → LrnV mg H' l b (LS.start B) av → Q .non H'
theorem q_learner {mg : Str → Option Value} {σ : L2.St} {H : Hp} {t : TA} {D : Ends} {tz : TS} {E : XK} {i : Nat} {B : Bk} {b : Addr} (ha : EvA t σ H [.ref b]) (hb : BookAt mg H b B) (hB : BookOk B)
    (k : ∀ l H2, H l = none → Ex H H2 → LrnV mg H2 l b (LS.start B) [] → tz D (σ.set i (some (.ref l))) H2) : tSeq (tAsg (tMake (cadr mg "Learner") (sp_Linit mg) [] E t) (gName i)) tz D σ H :=
  q_make ha fun H1 x dx e1 hx hd hn => by
    obtain ⟨dxb, hb⟩ := hb
    have n1 : b ≠ x := ne_of_none (e1 _ _ hb) hx
    have n2 : b ≠ dx := ne_of_none (e1 _ _ hb) hd
    exact ⟨x, b, dx, B, [], rfl, upd_same, ⟨dxb, by rw [upd_ne n1, upd_ne n2]; exact e1 _ _ hb⟩, n1, hB, Taken.nil, fun H2 e2 h2 => ⟨rfl, k x H2 (fresh_back e1 hx) (e1.trans (ex_made hx hd e2)) h2⟩⟩
theorem er_learner {mg : Str → Option Value} {σ : L2.St} {H : Hp} {t : TA} {Q : VK} {E : XK} {B : Bk} {b : Addr} (ha : EvA t σ H [.ref b]) (hb : BookAt mg H b B) (hB : BookOk B) {av : List Addr} (hav : Taken H av)
    (k : ∀ l H2, H l = none → Ex H H2 → LrnV mg H2 l b (LS.start B) av → Q (.ref l) H2) : tMake (cadr mg "Learner") (sp_Linit mg) [] E t σ H Q :=
  er_mkr ha fun H1 x dx e1 hx hd hn => by
    obtain ⟨dxb, hb⟩ := hb
    have n1 : b ≠ x := ne_of_none (e1 _ _ hb) hx
    have n2 : b ≠ dx := ne_of_none (e1 _ _ hb) hd
    refine ⟨x, b, dx, B, av, rfl, upd_same, ⟨dxb, by rw [upd_ne n1, upd_ne n2]; exact e1 _ _ hb⟩, n1, hB, fun a ha => ?_, fun H2 e2 h2 => ⟨rfl, k x H2 (fresh_back e1 hx) (e1.trans (ex_made hx hd e2)) h2⟩⟩
    obtain ⟨o, ho⟩ := (hav.ex e1) a ha
    exact ⟨o, by rw [upd_ne (ne_of_none ho hx), upd_ne (ne_of_none ho hd)]; exact ho⟩
theorem ok_Learner___init__ {f : Addr} {fd : FuncData} (T : Txt K mg) (F : Fun K "__init__" "Learner.__init__" s_Learner___init__ f fd) (C_codes : Cal P w K mg base "codes" ["shares"] 4 (sp_codes K)) : FnOk P w K mg base CX0 5 f fd ["self", "book"] (sp_Linit mg) := by
  refine F.ok sc_Learner___init__ (fun vs H Q E h => by obtain ⟨l, b, dx, B, av, rfl, _⟩ := h; rfl) (fun cdv A outer s H vs Q E hr h => ?_)
  obtain ⟨l, b, dx, B, av, rfl, hl, ⟨dxb, hb⟩, hbl, hB, hav, q⟩ := h
  have hm : l ∈ [l] := by simp
  have nb : b ∉ [l] := by simpa using hbl
  have h2 := hB.1.2.1
  have hO := LS.start_ok hB
  refine ⟨_, (pss_cons (ps_fld (pv 0) (pe_op op_rep (pe_lst (pa_cons pe_int pa_nil)) (pe_callB call_len_str (by rfl) T.b_len PySem.boot_len (pa_cons (pe_fld (pv 1) rfl) pa_nil))) rfl)
      (pss_cons (ps_fld (pv 0) (pe_cal C_codes hr (by decide) (by rfl) (pa_cons (pe_fld (pv 0) rfl) pa_nil)) rfl)
      (pss_cons (ps_fld (pv 0) pe_str rfl)
      (pss_one (ps_fld (pv 0) (pv 1) rfl))))), ?_⟩
  refine q_fldL (xs := (LS.start B).ns.map V.int) (el_repI (el_lst (ea_cons ev_c ea_nil) (by decide)) (ev_is (ev_lenZ (ev_fld (ev_var rfl) hb T.cl_Book T.na_Book_signs (bf_signs B)) (by rw [tx_len]; exact sz_of (by omega))) (by rw [tx_len])) (by omega)) (ev_var rfl) hl T.cl_Learner T.na_Learner_shares (by show 0 < 1000; decide) fun sh H1 hsh e1 h1 n1 => ?_
  have x1 : ExS [l] H (upd H1 l (.ins (cadr mg "Learner") dx (putF "shares" (.ref sh) []))) := (ExS.of e1).upd hm
  have s1 : upd H1 l (.ins (cadr mg "Learner") dx (putF "shares" (.ref sh) [])) sh = some (.lst ((LS.start B).ns.map V.int)) := by rw [upd_ne n1]; exact h1
  generalize hG1 : upd H1 l (.ins (cadr mg "Learner") dx (putF "shares" (.ref sh) [])) = G1 at x1 s1
  have l1 : G1 l = some (.ins (cadr mg "Learner") dx [("shares", .ref sh)]) := by rw [← hG1, upd_same]; (repeat (first | rw [pf_eq] | rw [pf_nil] | rw [pf_ne (by decide +kernel)]))
  refine q_fldL (el_cal (ea_cons (ev_fld (ev_var rfl) l1 T.cl_Learner T.na_Learner_shares (by (repeat (first | exact lk_eq | exact lk_nil | (refine (lk_ne (by decide +kernel)).trans ?_))))) ea_nil) (spl_codes s1 hO.sh)) (ev_var rfl) l1 T.cl_Learner T.na_Learner_words (by show 1 < 1000; decide) fun wd H2 hwd e2 h2 n2 => ?_
  have n1' : sh ≠ l := n1
  have s2 := e2 _ _ s1
  refine q_fld (ev_is ev_c str0) (ev_var rfl) upd_same T.cl_Learner T.na_Learner_waits (by (repeat (first | rw [pf_eq] | rw [pf_nil] | rw [pf_ne (by decide +kernel)])); show 2 < 1000; decide) fun H3 e3 => ?_
  refine s_fld (ev_var rfl) (ev_var rfl) upd_same T.cl_Learner T.na_Learner__book (by (repeat (first | rw [pf_eq] | rw [pf_nil] | rw [pf_ne (by decide +kernel)])); show 3 < 1000; decide) fun H4 e4 => ?_
  refine q _ (((((((x1.trans (ExS.of e2)).upd hm).trans (ExS.of e3)).upd hm).trans (ExS.of e4)).upd hm)) ⟨dx, sh, wd, ?_, ?_, ?_, hav.not hsh, hav.not (x1.back hwd (by simpa using n2))⟩
  · rw [upd_same]
    unfold lf LS.start
    repeat (first | rw [pf_eq] | rw [pf_nil] | rw [pf_ne (by decide +kernel)])
  · rw [upd_ne n1']
    refine e4 _ _ ?_
    rw [upd_ne n1']
    refine e3 _ _ ?_
    rw [upd_ne n1']
    exact s2
  · rw [upd_ne n2]
    refine e4 _ _ ?_
    rw [upd_ne n2]
    refine e3 _ _ ?_
    rw [upd_ne n2]
    exact h2
def sp_learn (mg : Str → Option Value) : Sp := fun vs H Q _ => ∃ (l b : Addr) (B : Bk) (s : LS) (av : List Addr), vs = [.ref l] ∧ LrnV mg H l b s av ∧ Taken H av ∧ BookAt mg H b B ∧ b ≠ l ∧ BookOk B ∧ Shares s.ns ∧ s.ns.length = B.ss.length ∧ s.ws.length ≤ 99 ∧ ∀ H', ExS [l] H H' → LrnV mg H' l b ⟨learntF B.cap s.ns (countsOf B.ss s.ws), []⟩ av → Q .non H'
theorem ok_Learner__learn {f : Addr} {fd : FuncData} (T : Txt K mg) (F : Fun K "_learn" "Learner._learn" s_Learner__learn f fd) (C_counted : Cal P w K mg base "counted" ["signs", "block"] 1 sp_counted) (C_learnt : Cal P w K mg base "learnt" ["shares", "counts", "cap"] 3 (sp_learnt K)) (C_codes : Cal P w K mg base "codes" ["shares"] 4 (sp_codes K)) : FnOk P w K mg base CX0 5 f fd ["self"] (sp_learn mg) := by
  refine F.ok sc_Learner__learn (fun vs H Q E h => by obtain ⟨l, b, B, s, av, rfl, _⟩ := h; rfl) (fun cdv A outer s0 H vs Q E hr h => ?_)
  obtain ⟨l, b, B, s, av, rfl, ⟨dx, sh, wd, hl, hsh, hwd, _, _⟩, hav, ⟨dxb, hb⟩, hbl, hB, hS, hlen, hws, q⟩ := h
  have hm : l ∈ [l] := by simp
  have nb : b ∉ [l] := by simpa using hbl
  obtain ⟨⟨_, h2, _⟩, _, _, hc1, hc2⟩ := id hB
  have hC : Counts (countsOf B.ss s.ws) s.ns.length := counts_okB hlen hws
  have hc : (s.ns.length : Int) ≤ B.cap := by rw [hlen]; exact hc1
  have hLS := learntF_shares hS hC hc hc2
  refine ⟨_, (pss_cons (ps_set (i := 1) sc_Learner__learn.nd rfl (Or.inl rfl) (pe_cal C_counted hr (by decide) (by rfl) (pa_cons (pe_fld (pe_fld (pv 0) rfl) rfl) (pa_cons (pe_fld (pv 0) rfl) pa_nil))))
      (pss_cons (ps_fld (pv 0) (pe_cal C_learnt hr (by decide) (by rfl) (pa_cons (pe_fld (pv 0) rfl) (pa_cons (pv 1) (pa_cons (pe_fld (pe_fld (pv 0) rfl) rfl) pa_nil)))) rfl)
      (pss_cons (ps_fld (pv 0) (pe_cal C_codes hr (by decide) (by rfl) (pa_cons (pe_fld (pv 0) rfl) pa_nil)) rfl)
      (pss_one (ps_fld (pv 0) pe_str rfl))))), ?_⟩
  refine q_asgL (el_cal (ea_cons (ev_fld (ev_fld (ev_var rfl) hl T.cl_Learner T.na_Learner__book (lf_book _ _ _ _)) hb T.cl_Book T.na_Book_signs (bf_signs B)) (ea_cons (ev_fld (ev_var rfl) hl T.cl_Learner T.na_Learner_waits (lf_waits _ _ _ _)) ea_nil)) (spl fun _ _ Q E q => ⟨B.ss, s.ws, rfl, by omega, q⟩)) fun ct H1 hct e1 h1 => ?_
  have l1 := e1 _ _ hl
  have b1 := e1 _ _ hb
  have sh1 := e1 _ _ hsh
  refine q_fldL (xs := (learntF B.cap s.ns (countsOf B.ss s.ws)).map V.int) (el_cal (ea_cons (ev_fld (ev_var rfl) l1 T.cl_Learner T.na_Learner_shares (lf_shares _ _ _ _)) (ea_cons (ev_var rfl) (ea_cons (ev_fld (ev_fld (ev_var rfl) l1 T.cl_Learner T.na_Learner__book (lf_book _ _ _ _)) b1 T.cl_Book T.na_Book_cap (bf_cap B)) ea_nil))) (spl fun H2 e2 Q E q => ⟨sh, ct, s.ns, countsOf B.ss s.ws, _, B.cap, rfl, e2 _ _ sh1, e2 _ _ h1, hS, hC, hc, hc2, learntF_ok hS hC hc, q⟩)) (ev_var rfl) l1 T.cl_Learner T.na_Learner_shares (lf_len _ _ _ _) fun x H2 hx e2 h2 n2 => ?_
  rw [lf_put_shares]
  have x2 : ExS [l] H (upd H2 l (.ins (cadr mg "Learner") dx (lf x wd s.ws b))) := (ExS.of (e1.trans e2)).upd hm
  have s2 : upd H2 l (.ins (cadr mg "Learner") dx (lf x wd s.ws b)) x = some (.lst ((learntF B.cap s.ns (countsOf B.ss s.ws)).map V.int)) := by rw [upd_ne n2]; exact h2
  have l2 : upd H2 l (.ins (cadr mg "Learner") dx (lf x wd s.ws b)) l = some (.ins (cadr mg "Learner") dx (lf x wd s.ws b)) := upd_same
  generalize upd H2 l (.ins (cadr mg "Learner") dx (lf x wd s.ws b)) = G2 at x2 s2 l2
  refine q_fldL (el_cal (ea_cons (ev_fld (ev_var rfl) l2 T.cl_Learner T.na_Learner_shares (lf_shares _ _ _ _)) ea_nil) (spl_codes s2 hLS)) (ev_var rfl) l2 T.cl_Learner T.na_Learner_words (lf_len _ _ _ _) fun y H3 hy e3 h3 n3 => ?_
  rw [lf_put_words]
  refine s_fld (ev_is ev_c str0) (ev_var rfl) upd_same T.cl_Learner T.na_Learner_waits (lf_len _ _ _ _) fun H4 e4 => ?_
  rw [lf_put_waits]
  refine q _ ((((x2.trans (ExS.of e3)).upd hm).trans (ExS.of e4)).upd hm) ⟨dx, x, y, upd_same, ?_, ?_, hav.not (fresh_back e1 hx), hav.not (x2.back hy (by simpa using n3))⟩
  · rw [upd_ne n2]
    refine e4 _ _ ?_
    rw [upd_ne n2]
    exact e3 _ _ s2
  · rw [upd_ne n3]
    refine e4 _ _ ?_
    rw [upd_ne n3]
    exact h3
def sp_took (mg : Str → Option Value) : Sp := fun vs H Q _ => ∃ (l b : Addr) (B : Bk) (s : LS) (c : Nat) (av : List Addr), vs = [.ref l, .str (tx [c])] ∧ LrnV mg H l b s av ∧ Taken H av ∧ BookAt mg H b B ∧ b ≠ l ∧ BookOk B ∧ s.Ok B ∧ c ∈ B.ss ∧ ∀ H', ExS [l] H H' → LrnV mg H' l b (s.step B c) av → Q .non H'
theorem ok_Learner_took {f : Addr} {fd : FuncData} (T : Txt K mg) (F : Fun K "took" "Learner.took" s_Learner_took f fd) (M_Learner__learn : Met P w K mg base "Learner" "_learn" ["self"] 5 (sp_learn mg)) : FnOk P w K mg base CX0 6 f fd ["self", "sign"] (sp_took mg) := by
  refine F.ok sc_Learner_took (fun vs H Q E h => by obtain ⟨l, b, B, s, c, av, rfl, _⟩ := h; rfl) (fun cdv A outer s0 H vs Q E hr h => ?_)
  obtain ⟨l, b, B, s, c, av, rfl, ⟨dx, sh, wd, hl, hsh, hwd, hv1, hv2⟩, hav, ⟨dxb, hb⟩, hbl, hB, hO, hc, q⟩ := h
  have hm : l ∈ [l] := by simp
  have nb : b ∉ [l] := by simpa using hbl
  obtain ⟨⟨_, h2, _⟩, hz1, hz2, _⟩ := id hB
  have hw := hO.ws
  refine ⟨_, (pss_cons (ps_if (pt_cmpR op_notIn_seq (pv 1) (pe_callTy (call_listZ rfl) (by rfl) T.b_list (by decide +kernel) (pa_cons (pe_fld (pe_fld (pv 0) rfl) rfl) pa_nil)) (by rfl)) (pss_one ps_never) pss_nil)
      (pss_cons (ps_fldaug (pv 0) (pv 1) in_addS)
      (pss_one (ps_if (pt_cmpR op_eq (pe_callB call_len_str (by rfl) T.b_len PySem.boot_len (pa_cons (pe_fld (pv 0) rfl) pa_nil)) (pe_fld (pe_fld (pv 0) rfl) rfl) (nomark _)) (pss_one (ps_expr (pe_met0 M_Learner__learn hr (by decide) (pv 0)))) pss_nil)))), ?_⟩
  refine q_when (b := false) (et_is (et_test (ev_niZ (c := c) (ev_var rfl) (el_listZ (ev_fld (ev_fld (ev_var rfl) hl T.cl_Learner T.na_Learner__book (lf_book _ _ _ _)) hb T.cl_Book T.na_Book_signs (bf_signs B)) (by omega)))) (by rw [decide_eq_true hc]; rfl)) (fun hx => nomatch hx) (fun _ H1 e1 => ?_)
  have l1 := e1 _ _ hl
  have b1 := e1 _ _ hb
  refine q_faugS (a := s.ws) (b := [c]) (ev_var rfl) l1 T.cl_Learner T.na_Learner_waits (lf_waits _ _ _ _) (ev_var rfl) (by simp; omega) (lf_len _ _ _ _) fun H2 e2 => ?_
  rw [lf_put_waits]
  have x2 : ExS [l] H (upd H2 l (.ins (cadr mg "Learner") dx (lf sh wd (s.ws ++ [c]) b))) := (ExS.of (e1.trans e2)).upd hm
  have a2 : LrnV mg (upd H2 l (.ins (cadr mg "Learner") dx (lf sh wd (s.ws ++ [c]) b))) l b ⟨s.ns, s.ws ++ [c]⟩ av := by
    refine ⟨dx, sh, wd, upd_same, ?_, ?_, hv1, hv2⟩
    · rw [upd_ne (ne_of hsh hl fun z => nomatch z)]
      exact e2 _ _ (e1 _ _ hsh)
    · rw [upd_ne (ne_of hwd hl fun z => nomatch z)]
      exact e2 _ _ (e1 _ _ hwd)
  generalize upd H2 l (.ins (cadr mg "Learner") dx (lf sh wd (s.ws ++ [c]) b)) = G2 at x2 a2
  have b2 := x2.at hb nb
  obtain ⟨dx', sh', wd', l2, hsh2, hwd2, _⟩ := id a2
  have hav2 := hav.exS x2 (Taken.one l2)
  have hl2 : (s.ws ++ [c]).length = s.ws.length + 1 := by simp
  refine s_when (b := decide ((s.ws ++ [c]).length = B.size)) (et_is (et_test (ev_op (ev_lenZ (ev_fld (ev_var rfl) l2 T.cl_Learner T.na_Learner_waits (lf_waits _ _ _ _)) (by rw [tx_len]; exact sz_of (by show (s.ws ++ [c]).length ≤ 100000; omega))) (ev_fld (ev_fld (ev_var rfl) l2 T.cl_Learner T.na_Learner__book (lf_book _ _ _ _)) b2 T.cl_Book T.na_Book_size (bf_size B)) (rv_eq rfl))) ?_) (fun hx H3 e3 => ?_) (fun hx H3 e3 => ?_)
  · rw [tx_len]
    show decide (V.int (((s.ws ++ [c]).length : Nat) : Int) = V.int (B.size : Int)) = _
    exact decide_eq_decide.mpr ⟨fun h => by have := V.int.inj h; omega, fun h => by rw [h]⟩
  · have hx := of_decide_eq_true hx
    refine er_met (ev_var rfl) (e3 _ _ l2) (by unfold lf; (repeat (first | exact lk_eq | exact lk_nil | (refine (lk_ne (by decide +kernel)).trans ?_)))) ea_nil fun H4 e4 => ?_
    have e34 := e3.trans e4
    refine ⟨l, b, B, ⟨s.ns, s.ws ++ [c]⟩, av, rfl, a2.ex e34, hav2.ex e34, ⟨dxb, e34 _ _ b2⟩, hbl, hB, hO.sh, hO.len, by show (s.ws ++ [c]).length ≤ 99; omega, fun H5 e5 a5 => ?_⟩
    refine q H5 ((x2.trans (ExS.of e34)).trans e5) ?_
    unfold LS.step
    rw [if_pos hx]
    exact a5
  · have hx := of_decide_eq_false hx
    refine q H3 (x2.trans (ExS.of e3)) ?_
    unfold LS.step
    rw [if_neg hx]
    exact a2.ex e3
def sp_chkT : Sp := fun vs H Q _ => ∃ ss ts : List Nat, vs = [.str (tx ss), .str (tx ts)] ∧ (∀ c ∈ ts, c ∈ ss) ∧ RetV .non H Q
theorem ok_check_text {f : Addr} {fd : FuncData} (T : Txt K mg) (F : Fun K "check_text" "check_text" s_check_text f fd) : FnOk P w K mg base CX0 1 f fd ["signs", "text"] sp_chkT := by
  refine F.ok sc_check_text (fun vs H Q E h => by obtain ⟨ss, ts, rfl, _⟩ := h; rfl) (fun cdv A outer s H vs Q E hr h => ?_)
  obtain ⟨ss, ts, rfl, hm, q⟩ := h
  refine ⟨_, (pss_one (ps_for PassesOwn.never rfl (pi_str (pv 1)) (pg_name (i := 2) sc_check_text.nd rfl (Or.inl rfl)) (pss_one (ps_if (pt_cmpR op_notIn_sign (pv 2) (pv 0) (by rfl)) (pss_one ps_never) pss_nil)))), ?_⟩
  refine s_forS (ev_var rfl) (fun i σ' H' => Ex H H' ∧ ∃ y1, σ' = [some (.str (tx ss)), some (.str (tx ts)), y1]) (fun H2 e2 => ⟨e2, none, rfl⟩) (fun i c σ' H' hc p => ?_) (fun σ' H' p => ?_)
  · obtain ⟨e2, y1, rfl⟩ := p
    refine s_when (b := false) (et_is (et_test (ev_op (ev_var rfl) (ev_var rfl) (rv_niS (c := c) (l := ss)))) ?_) (fun hx => nomatch hx) (fun _ H3 e3 => ⟨e2.trans e3, _, rfl⟩)
    rw [decide_eq_true (hm c (List.mem_of_getElem? hc))]
    rfl
  · obtain ⟨e2, y1, rfl⟩ := p
    exact q H' e2
def pf (l : Addr) (ss : List Nat) : List (Str × V) := [("learner", .ref l), ("_signs", .str (tx ss))]
theorem pf_learner (l : Addr) (ss : List Nat) : (pf l ss).lookup ("learner" : Str) = some (.ref l) := by unfold pf; (repeat (first | exact lk_eq | exact lk_nil | (refine (lk_ne (by decide +kernel)).trans ?_)))
theorem pf_signs (l : Addr) (ss : List Nat) : (pf l ss).lookup ("_signs" : Str) = some (.str (tx ss)) := by unfold pf; (repeat (first | exact lk_eq | exact lk_nil | (refine (lk_ne (by decide +kernel)).trans ?_)))
/-- a packer: its learner is another object -/
def PckAt (mg : Str → Option Value) (H : Hp) (p l b : Addr) (B : Bk) (s : LS) (av : List Addr) : Prop := ∃ dx, H p = some (.ins (cadr mg "Packer") dx (pf l B.ss)) ∧ LrnV mg H l b s av ∧ p ≠ l ∧ b ≠ l ∧ b ≠ p
def sp_Pinit (mg : Str → Option Value) : Sp := fun vs H Q _ => ∃ (p b dx : Addr) (B : Bk) (av : List Addr), vs = [.ref p, .ref b] ∧ H p = some (.ins (cadr mg "Packer") dx []) ∧ BookAt mg H b B ∧ b ≠ p ∧ BookOk B ∧ Taken H av ∧ ∀ l H', H l = none → ExS [p] H H' → PckAt mg H' p l b B (LS.start B) av → Q .non H'
theorem taken_made {H1 : Hp} {av : List Addr} {x dx C : Addr} {fs : List (Str × V)} (h : Taken H1 av) (hx : H1 x = none) (hd : H1 dx = none) : Taken (upd (upd H1 dx (.own x)) x (.ins C dx fs)) av := fun a ha => by
  obtain ⟨o, h⟩ := h a ha
  have n1 : a ≠ x := ne_of_none h hx
  have n2 : a ≠ dx := ne_of_none h hd
  exact ⟨o, by rw [upd_ne n1, upd_ne n2]; exact h⟩
theorem q_packer {mg : Str → Option Value} {σ : L2.St} {H : Hp} {t : TA} {Q : VK} {E : XK} {B : Bk} {b : Addr} (ha : EvA t σ H [.ref b]) (hb : BookAt mg H b B) (hB : BookOk B) {av : List Addr} (hav : Taken H av)
    (k : ∀ p l H2, H p = none → H l = none → Ex H H2 → PckAt mg H2 p l b B (LS.start B) av → Q (.ref p) H2) : tMake (cadr mg "Packer") (sp_Pinit mg) [] E t σ H Q :=
  er_mkr ha fun H1 x dx e1 hx hd hn => by
    obtain ⟨dxb, hb⟩ := hb
    have n1 : b ≠ x := ne_of_none (e1 _ _ hb) hx
    have n2 : b ≠ dx := ne_of_none (e1 _ _ hb) hd
    refine ⟨x, b, dx, B, av, rfl, upd_same, ⟨dxb, by rw [upd_ne n1, upd_ne n2]; exact e1 _ _ hb⟩, n1, hB, taken_made (hav.ex e1) hx hd, fun l H2 hl e2 h2 => ⟨rfl, k x l H2 (fresh_back e1 hx) (fresh_back e1 ?_) (e1.trans (ex_made hx hd e2)) h2⟩⟩
    have n3 : l ≠ x := fun z => by rw [z, upd_same] at hl; cases hl
    rw [upd_ne n3] at hl
    have n4 : l ≠ dx := fun z => by rw [z, upd_same] at hl; cases hl
    rw [upd_ne n4] at hl
    exact hl
theorem ok_Packer___init__ {f : Addr} {fd : FuncData} (T : Txt K mg) (F : Fun K "__init__" "Packer.__init__" s_Packer___init__ f fd) (N_Learner : Mkr P w K mg base "Learner" ["self", "book"] 5 (sp_Linit mg)) : FnOk P w K mg base CX0 7 f fd ["self", "book"] (sp_Pinit mg) := by
  refine F.ok sc_Packer___init__ (fun vs H Q E h => by obtain ⟨p, b, dx, B, av, rfl, _⟩ := h; rfl) (fun cdv A outer s H vs Q E hr h => ?_)
  obtain ⟨p, b, dx, B, av, rfl, hp, hb, hbp, hB, hav, q⟩ := h
  have hm : p ∈ [p] := by simp
  refine ⟨_, (pss_cons (ps_fld (pv 0) (pe_mkr N_Learner hr (by decide) (by rfl) (pa_cons (pv 1) pa_nil)) rfl)
      (pss_one (ps_fld (pv 0) (pe_fld (pv 1) rfl) rfl))), ?_⟩
  refine q_fldM (i := 0) (ea_cons (ev_var rfl) ea_nil) rfl fun H1 x dxl e1 hx hd hn => ?_
  obtain ⟨dxb, hb⟩ := hb
  have n1 : b ≠ x := ne_of_none (e1 _ _ hb) hx
  have n2 : b ≠ dxl := ne_of_none (e1 _ _ hb) hd
  have px : p ≠ x := ne_of_none (e1 _ _ hp) hx
  refine ⟨x, b, dxl, B, av, rfl, upd_same, ⟨dxb, by rw [upd_ne n1, upd_ne n2]; exact e1 _ _ hb⟩, n1, hB, taken_made (hav.ex e1) hx hd, fun H2 e2 a2 => ⟨rfl, _, dx, [], (e1.trans (ex_made hx hd e2)) _ _ hp, T.cl_Packer, T.na_Packer_learner, by show 0 < 1000; decide, ?_⟩⟩
  have e12 := e1.trans (ex_made hx hd e2)
  have b2 := e12 _ _ hb
  have nbp : b ∉ [p] := by simpa using hbp
  have nxp : x ∉ [p] := by simpa using Ne.symm px
  have p2 := e12 _ _ hp
  have x3 : ExS [p] H2 (upd H2 p (.ins (cadr mg "Packer") dx (putF "learner" (.ref x) []))) := ExS.refl.upd hm
  have p3 : upd H2 p (.ins (cadr mg "Packer") dx (putF "learner" (.ref x) [])) p = some (.ins (cadr mg "Packer") dx (putF "learner" (.ref x) [])) := upd_same
  have a3 := a2.exS x3 nxp (InsAt.one p2)
  have b3 := x3.at b2 nbp
  generalize upd H2 p (.ins (cadr mg "Packer") dx (putF "learner" (.ref x) [])) = G at x3 p3 a3 b3
  refine s_fld (ev_fld (ev_var rfl) b3 T.cl_Book T.na_Book_signs (bf_signs B)) (ev_var rfl) p3 T.cl_Packer T.na_Packer__signs (by (repeat (first | rw [pf_eq] | rw [pf_nil] | rw [pf_ne (by decide +kernel)])); show 1 < 1000; decide) fun H4 e4 => ?_
  have x5 : ExS [p] H4 (upd H4 p (.ins (cadr mg "Packer") dx (putF "_signs" (.str (tx B.ss)) (putF "learner" (.ref x) [])))) := ExS.refl.upd hm
  refine q x _ (fresh_back e1 hx) (((ExS.of (ms := [p]) e12).trans (x3.trans (ExS.of e4))).trans x5) ⟨dx, ?_, (a3.ex e4).exS x5 nxp (InsAt.one (e4 _ _ p3)), px, n1, hbp⟩
  rw [upd_same]
  unfold pf
  (repeat (first | rw [pf_eq] | rw [pf_nil] | rw [pf_ne (by decide +kernel)]))
theorem PckAt.lrn {mg : Str → Option Value} {H : Hp} {p l b : Addr} {B : Bk} {s : LS} {av : List Addr} (h : PckAt mg H p l b B s av) : LrnV mg H l b s av := by
  obtain ⟨dx, _, h, _⟩ := h
  exact h
theorem PckAt.exS {mg : Str → Option Value} {H H' : Hp} {p l b : Addr} {B : Bk} {s s' : LS} {av aw ms : List Addr} (h : PckAt mg H p l b B s av) (e : ExS ms H H') (n : p ∉ ms) (a : LrnV mg H' l b s' aw) : PckAt mg H' p l b B s' aw := by
  obtain ⟨dx, h1, _, h2, h3⟩ := h
  exact ⟨dx, e _ _ n h1, a, h2, h3⟩
theorem PckAt.ex {mg : Str → Option Value} {H H' : Hp} {p l b : Addr} {B : Bk} {s : LS} {av : List Addr} (h : PckAt mg H p l b B s av) (e : Ex H H') : PckAt mg H' p l b B s av := by
  obtain ⟨dx, h1, h0, h2⟩ := h
  exact ⟨dx, e _ _ h1, h0.ex e, h2⟩
theorem PckAt.av {mg : Str → Option Value} {H : Hp} {p l b : Addr} {B : Bk} {s : LS} {av aw : List Addr} (h : PckAt mg H p l b B s av) (a : LrnV mg H l b s aw) : PckAt mg H p l b B s aw := by
  obtain ⟨dx, h1, _, h2⟩ := h
  exact ⟨dx, h1, a, h2⟩
def sp_Pput (mg : Str → Option Value) : Sp := fun vs H Q _ => ∃ (p l b : Addr) (B : Bk) (s : LS) (ts : List Nat) (av : List Addr), vs = [.ref p, .str (tx ts)] ∧ PckAt mg H p l b B s av ∧ Taken H av ∧ BookAt mg H b B ∧ BookOk B ∧ s.Ok B ∧ (∀ c ∈ ts, c ∈ B.ss) ∧ ts.length ≤ 2000 ∧
  ∀ H', ExS [l] H H' → PckAt mg H' p l b B (s.steps B ts) av → Q (.str (tx (packF B s ts))) H'
theorem ok_Packer_put {f : Addr} {fd : FuncData} (T : Txt K mg) (F : Fun K "put" "Packer.put" s_Packer_put f fd) (C_check_text : Cal P w K mg base "check_text" ["signs", "text"] 1 sp_chkT) (M_Learner_took : Met P w K mg base "Learner" "took" ["self", "sign"] 6 (sp_took mg)) : FnOk P w K mg base CX0 7 f fd ["self", "part"] (sp_Pput mg) := by
  refine F.ok sc_Packer_put (fun vs H Q E h => by obtain ⟨p, l, b, B, s, ts, av, rfl, _⟩ := h; rfl) (fun cdv A outer s0 H vs Q E hr h => ?_)
  obtain ⟨p, l, b, B, s, ts, av, rfl, hP, hav, hb, hB, hO, hm, hlen, q⟩ := h
  obtain ⟨dx, hp, hl, hpl, hbl, hbp⟩ := id hP
  refine ⟨_, (pss_cons (ps_expr (pe_cal C_check_text hr (by decide) (by rfl) (pa_cons (pe_fld (pv 0) rfl) (pa_cons (pv 1) pa_nil))))
      (pss_cons (ps_set (i := 2) sc_Packer_put.nd rfl (Or.inl rfl) (pe_lst pa_nil))
      (pss_cons (ps_for PassesOwn.never rfl (pi_str (pv 1)) (pg_name (i := 3) sc_Packer_put.nd rfl (Or.inl rfl)) (pss_cons (ps_expr (pe_bm PySem.F.plainAttrs_list PySem.F.slot_list_append PySem.F.type_list_append mt_append (pv 2) (pa_cons (pe_ix ix_list (pe_fld (pe_fld (pv 0) rfl) rfl) (pe_bm PySem.F.plainAttrs_str PySem.F.slot_str_index PySem.F.type_str_index mt_sindex (pe_fld (pv 0) rfl) (pa_cons (pv 3) pa_nil)) (fun _ _ => rfl)) pa_nil)))
      (pss_one (ps_expr (pe_met M_Learner_took hr (by decide) (pe_fld (pv 0) rfl) (pa_cons (pv 3) pa_nil))))))
      (pss_one (ps_ret (pe_bm PySem.F.plainAttrs_str PySem.F.slot_str_join PySem.F.type_str_join mt_join pe_str (pa_cons (pv 2) pa_nil))))))), ?_⟩
  refine q_drop (ev_cal (ea_cons (ev_fld (ev_var rfl) hp T.cl_Packer T.na_Packer__signs (pf_signs _ _)) (ea_cons (ev_var rfl) ea_nil)) (spv fun _ _ Q E q => ⟨B.ss, ts, rfl, hm, q⟩)) fun H1 e1 => ?_
  refine q_asgL (el_lst ea_nil (by decide)) fun r H2 hr2 e2 h2 => ?_
  have e12 := e1.trans e2
  have P2 : PckAt mg H2 p l b B s (r :: av) := (hP.ex e12).av (((hl.ex e1).cons hr2).ex e2)
  have v2 : Taken H2 (r :: av) := (hav.ex e12).cons h2
  have b2 := hb.ex e12
  have nrl : r ≠ l := fun z => by
    obtain ⟨C, dx, fs, h⟩ := hl.ins
    rw [z, e1 _ _ h] at hr2
    cases hr2
  have npr : p ≠ r := fun z => by rw [← z, e1 _ _ hp] at hr2; cases hr2
  have nbr : b ≠ r := fun z => by
    obtain ⟨dxb, hb⟩ := hb
    rw [← z, e1 _ _ hb] at hr2
    cases hr2
  have S1 := hB.1.2.1
  refine q_forS (ev_var rfl) (fun i σ' H' => ∃ y, σ' = [some (.ref p), some (.str (tx ts)), some (.ref r), y] ∧ ExS [l, r] H2 H' ∧ PckAt mg H' p l b B (s.steps B (ts.take i)) (r :: av) ∧ Taken H' (r :: av) ∧ H' r = some (.lst (wv (packL B s (ts.take i))))) (fun H3 e3 => ⟨_, rfl, ExS.of e3, P2.ex e3, v2.ex e3, e3 _ _ h2⟩) (fun i c σ' H' hc inv => ?_) (fun σ' H' inv => ?_)
  · have hcm := hm c (List.mem_of_getElem? hc)
    have htk : ts.take (i + 1) = ts.take i ++ [c] := by rw [List.take_add_one, hc]; rfl
    have hst : s.steps B (ts.take (i + 1)) = (s.steps B (ts.take i)).step B c := by rw [htk]; exact LS.steps_snoc _ _ _ _
    have hpk : packL B s (ts.take (i + 1)) = packL B s (ts.take i) ++ [code1 B (s.steps B (ts.take i)) c] := by rw [htk, packL_app]; rfl
    rw [hst, hpk]
    have hil : (packL B s (ts.take i)).length ≤ 2000 := by rw [packL_len, List.length_take]; omega
    have hO' := LS.steps_ok hB (ts.take i) _ hO
    generalize s.steps B (ts.take i) = s' at inv hO' ⊢
    generalize packL B s (ts.take i) = D at inv hil ⊢
    obtain ⟨y, rfl, x', P', v', r'⟩ := inv
    obtain ⟨dx', p', a', _⟩ := id P'
    obtain ⟨dxl, shl, wdl, il, h3, h4, h5, h6⟩ := id a'
    have b' : BookAt mg H' b B := b2.exS x' (by simp [hbl, nbr])
    have hcode := code1_get hO' hcm
    have hix : atI (wv (HF.codes s'.ns)) ((B.ss.idxOf c : Nat) : Int) = some (.str (tx (code1 B s' c))) := by
      refine atI_nat ?_
      unfold wv
      rw [List.getElem?_map, hcode]
      rfl
    refine q_app (xs := wv D) r' (ev_var rfl) (ev_op (ev_fld (ev_fld (ev_var rfl) p' T.cl_Packer T.na_Packer_learner (pf_learner _ _)) il T.cl_Learner T.na_Learner_words (lf_words _ _ _ _)) (ev_idxS (ev_fld (ev_var rfl) p' T.cl_Packer T.na_Packer__signs (pf_signs _ _)) (ea_cons (ev_var rfl) ea_nil) hcm) (rv_ixL (sq_of h4) hix)) (by rw [wv_len]; omega) fun H3 e3 => ?_
    have x4 : ExS [r] H3 (upd H3 r (.lst (wv D ++ [.str (tx (code1 B s' c))]))) := ExS.refl.upd (by simp)
    have r4 : upd H3 r (.lst (wv D ++ [.str (tx (code1 B s' c))])) r = some (.lst (wv (D ++ [code1 B s' c]))) := by
      rw [upd_same]
      unfold wv
      rw [List.map_append]
      rfl
    generalize upd H3 r (.lst (wv D ++ [.str (tx (code1 B s' c))])) = H4 at x4 r4
    have nlr : l ∉ [r] := by simpa using Ne.symm nrl
    have a4 := (a'.ex e3).mut x4 nlr (by simp)
    have b4 := (b'.ex e3).exS x4 (by simpa using nbr)
    have v4 := (v'.ex e3).exS x4 (Taken.one r4)
    have p4 := x4 _ _ (by simpa using npr) (e3 _ _ p')
    obtain ⟨dxl2, shl2, wdl2, il2, _⟩ := id a4
    refine er_met (ev_fld (ev_var rfl) p4 T.cl_Packer T.na_Packer_learner (pf_learner _ _)) il2 (by unfold lf; (repeat (first | exact lk_eq | exact lk_nil | (refine (lk_ne (by decide +kernel)).trans ?_)))) (ea_cons (ev_var rfl) ea_nil) fun H5 e5 => ?_
    refine ⟨l, b, B, s', c, r :: av, rfl, a4.ex e5, v4.ex e5, b4.ex e5, hbl, hB, hO', hcm, fun H6 x6 a6 => ?_⟩
    have m1 : ∀ a ∈ [r], a ∈ [l, r] := by simp
    have m2 : ∀ a ∈ [l], a ∈ [l, r] := by simp
    refine ⟨_, rfl, ((x'.trans (ExS.of e3)).trans (x4.mono m1)).trans ((ExS.of e5).trans (x6.mono m2)), (P'.exS ((((ExS.of (ms := [l, r]) e3)).trans (x4.mono m1)).trans ((ExS.of e5).trans (x6.mono m2))) (by simp [hpl, npr]) a6), (v4.ex e5).exS x6 a6.taken, x6 _ _ (by simpa using nrl) (e5 _ _ r4)⟩
  · obtain ⟨y, rfl, x', P', v', r'⟩ := inv
    rw [List.take_length] at P' r'
    refine s_ret (ev_is (ev_joinL (sep := tx []) (ev_is ev_c str0) (ev_var rfl) (by rw [← wv_wz]; exact sq_of r') (by
      have := packL_sizes hB ts s hO hm
      show _ + (wz (packL B s ts)).length * 0 ≤ 16777216
      omega)) (w := .str (tx (packF B s ts))) (by rw [join_words]; rfl)) fun H3 e3 => ?_
    refine q H3 (fun a o n h => e3 _ _ (x' _ _ ?_ (e12 _ _ h))) ((P'.ex e3).av ((P'.lrn.ex e3).sub fun a ha => List.mem_cons_of_mem _ ha))
    intro z
    rcases List.mem_cons.mp z with z | z
    · exact n (by rw [z]; simp)
    · rw [List.mem_singleton.mp z] at h
      rw [e1 _ _ h] at hr2
      cases hr2
def sp_pack (mg : Str → Option Value) : Sp := fun vs H Q _ => ∃ (b : Addr) (B : Bk) (ts : List Nat), vs = [.ref b, .str (tx ts)] ∧ BookAt mg H b B ∧ BookOk B ∧ (∀ c ∈ ts, c ∈ B.ss) ∧ ts.length ≤ 2000 ∧ RetV (.str (tx (packF B (LS.start B) ts))) H Q
theorem spv_pack {mg : Str → Option Value} {H : Hp} {b : Addr} {B : Bk} {ts : List Nat} (hb : BookAt mg H b B) (hB : BookOk B) (hm : ∀ c ∈ ts, c ∈ B.ss) (hl : ts.length ≤ 2000) : SpV (sp_pack mg) [.ref b, .str (tx ts)] H (.str (tx (packF B (LS.start B) ts))) :=
  spv fun H1 e1 Q E q => ⟨b, B, ts, rfl, hb.ex e1, hB, hm, hl, q⟩
theorem ok_pack {f : Addr} {fd : FuncData} (T : Txt K mg) (F : Fun K "pack" "pack" s_pack f fd) (M_Packer_put : Met P w K mg base "Packer" "put" ["self", "part"] 7 (sp_Pput mg)) (N_Packer : Mkr P w K mg base "Packer" ["self", "book"] 7 (sp_Pinit mg)) : FnOk P w K mg base CX0 9 f fd ["book", "text"] (sp_pack mg) := by
  refine F.ok sc_pack (fun vs H Q E h => by obtain ⟨b, B, ts, rfl, _⟩ := h; rfl) (fun cdv A outer s H vs Q E hr h => ?_)
  obtain ⟨b, B, ts, rfl, hb, hB, hm, hlen, q⟩ := h
  refine ⟨_, (pss_one (ps_ret (pe_met M_Packer_put hr (by decide) (pe_mkr N_Packer hr (by decide) (by rfl) (pa_cons (pv 0) pa_nil)) (pa_cons (pv 1) pa_nil)))), ?_⟩
  refine s_retQ (er_of (q_packer (ea_cons (ev_var rfl) ea_nil) hb hB Taken.nil fun p l H2 hp hl e2 P2 => ?_))
  obtain ⟨dx, p2, _⟩ := id P2
  refine ⟨p, dx, _, rfl, p2, by unfold pf; (repeat (first | exact lk_eq | exact lk_nil | (refine (lk_ne (by decide +kernel)).trans ?_))), _, rfl, p, l, b, B, LS.start B, ts, [], rfl, P2, Taken.nil, hb.ex e2, hB, LS.start_ok hB, hm, hlen, fun H3 x3 P3 => q H3 (x3.ex e2 (by simpa using hl))⟩
theorem strB01 : PySem.Str.ofString "01" = tx [48, 49] := by decide +kernel
def BitsB (bs : List Nat) : Bool := bs.all fun b => decide (b = 48 ∨ b = 49)
def sp_xB (mg : Str → Option Value) : Sp := fun vs H Q E => ∃ bs : List Nat, vs = [.str (tx bs)] ∧ RetX mg (if BitsB bs then .ok .non else .bad "BadBit") H Q E
theorem ok_check_bits {f : Addr} {fd : FuncData} (T : Txt K mg) (F : Fun K "check_bits" "check_bits" s_check_bits f fd) : FnOk P w K mg base (L2.CX P w) 1 f fd ["bits"] (sp_xB mg) := by
  refine F.okX sc_check_bits (fun vs H Q E h => by obtain ⟨bs, rfl, _⟩ := h; rfl) (fun cdv A outer s H vs Q E hr h => ?_)
  obtain ⟨bs, rfl, q⟩ := h
  refine ⟨_, (pss_one (ps_for (passes_of rfl) rfl (pi_str (pv 0)) (pg_name (i := 1) sc_check_bits.nd rfl (Or.inl rfl)) (pss_one (ps_if (pt_cmpR op_notIn_sign (pv 1) pe_str (by rfl)) (pss_one (ps_err T.ex_BadBit rfl (takes_of rfl rfl rfl rfl) (by rfl))) pss_nil)))), ?_⟩
  refine s_forS (ev_var rfl) (fun i σ' H' => Ex H H' ∧ (∀ j, j < i → ∀ c, bs[j]? = some c → c = 48 ∨ c = 49) ∧ ∃ y1, σ' = [some (.str (tx bs)), y1]) (fun H2 e2 => ⟨e2, fun j hj => by omega, none, rfl⟩) (fun i c σ' H' hc p => ?_) (fun σ' H' p => ?_)
  · obtain ⟨e2, hj, y1, rfl⟩ := p
    have hcb : ∀ b : Bool, b = decide (c = 48 ∨ c = 49) → (!decide (c ∈ [48, 49])) = !b := fun b h => by rw [h]; simp
    refine s_when (b := !decide (c = 48 ∨ c = 49)) (et_is (et_test (ev_op (ev_var rfl) (ev_is ev_c (congrArg V.str strB01)) (rv_niS (c := c) (l := [48, 49])))) (hcb _ rfl)) (fun hx H3 e3 => ?_) (fun hx H3 e3 => ⟨e2.trans e3, fun j hj' c' hc' => ?_, _, rfl⟩)
    · have h0 : BitsB bs = false := by
        cases h1 : BitsB bs with
        | false => rfl
        | true =>
          have := List.all_eq_true.mp h1 c (List.mem_of_getElem? hc)
          simp only [decide_eq_true_eq] at this
          simp [this] at hx
      rw [h0] at q
      exact q.bad (e2.trans e3)
    · by_cases hji : j < i
      · exact hj j hji c' hc'
      · have : j = i := by omega
        rw [this, hc] at hc'
        cases hc'
        cases h9 : decide (c = 48 ∨ c = 49) with
        | true => exact of_decide_eq_true h9
        | false => rw [h9] at hx; cases hx
  · obtain ⟨e2, hj, y1, rfl⟩ := p
    have h0 : BitsB bs = true := List.all_eq_true.mpr fun c hc => by
      obtain ⟨j, hj', e⟩ := List.getElem_of_mem hc
      exact decide_eq_true (hj j hj' c (by rw [List.getElem?_eq_getElem hj', e]))
    rw [h0] at q
    exact q.ok e2
def uf (l : Addr) (left : Nat) (ss way : List Nat) : List (Str × V) := [("learner", .ref l), ("left", .int (left : Int)), ("_signs", .str (tx ss)), ("_way", .str (tx way))]
theorem uf_learner (l : Addr) (left : Nat) (ss way : List Nat) : (uf l left ss way).lookup ("learner" : Str) = some (.ref l) := by unfold uf; (repeat (first | exact lk_eq | exact lk_nil | (refine (lk_ne (by decide +kernel)).trans ?_)))
theorem uf_left (l : Addr) (left : Nat) (ss way : List Nat) : (uf l left ss way).lookup ("left" : Str) = some (.int (left : Int)) := by unfold uf; (repeat (first | exact lk_eq | exact lk_nil | (refine (lk_ne (by decide +kernel)).trans ?_)))
theorem uf_signs (l : Addr) (left : Nat) (ss way : List Nat) : (uf l left ss way).lookup ("_signs" : Str) = some (.str (tx ss)) := by unfold uf; (repeat (first | exact lk_eq | exact lk_nil | (refine (lk_ne (by decide +kernel)).trans ?_)))
theorem uf_way (l : Addr) (left : Nat) (ss way : List Nat) : (uf l left ss way).lookup ("_way" : Str) = some (.str (tx way)) := by unfold uf; (repeat (first | exact lk_eq | exact lk_nil | (refine (lk_ne (by decide +kernel)).trans ?_)))
theorem uf_len (l : Addr) (left : Nat) (ss way : List Nat) : (uf l left ss way).length < 1000 := by show 4 < 1000; decide
theorem uf_put_left (n : Nat) (l : Addr) (left : Nat) (ss way : List Nat) : putF "left" (.int (n : Int)) (uf l left ss way) = uf l n ss way := by unfold uf; (repeat (first | rw [pf_eq] | rw [pf_nil] | rw [pf_ne (by decide +kernel)]))
theorem uf_put_way (v : List Nat) (l : Addr) (left : Nat) (ss way : List Nat) : putF "_way" (.str (tx v)) (uf l left ss way) = uf l left ss v := by unfold uf; (repeat (first | rw [pf_eq] | rw [pf_nil] | rw [pf_ne (by decide +kernel)]))
/-- an unpacker -/
def UnpAt (mg : Str → Option Value) (H : Hp) (u l b : Addr) (B : Bk) (s : LS) (left : Nat) (way : List Nat) (av : List Addr) : Prop := ∃ dx, H u = some (.ins (cadr mg "Unpacker") dx (uf l left B.ss way)) ∧ LrnV mg H l b s av ∧ u ≠ l ∧ b ≠ l ∧ b ≠ u
theorem UnpAt.ex {mg : Str → Option Value} {H H' : Hp} {u l b : Addr} {B : Bk} {s : LS} {left : Nat} {way : List Nat} {av : List Addr} (h : UnpAt mg H u l b B s left way av) (e : Ex H H') : UnpAt mg H' u l b B s left way av := by
  obtain ⟨dx, h1, h0, h2⟩ := h
  exact ⟨dx, e _ _ h1, h0.ex e, h2⟩
theorem UnpAt.taken {mg : Str → Option Value} {H : Hp} {u l b : Addr} {B : Bk} {s : LS} {left : Nat} {way : List Nat} {av : List Addr} (h : UnpAt mg H u l b B s left way av) : Taken H [l, u] := by
  obtain ⟨dx, h1, h0, h2⟩ := h
  obtain ⟨C, d, fs, h⟩ := h0.ins
  exact (Taken.one h1).cons h
theorem UnpAt.insAt {mg : Str → Option Value} {H : Hp} {u l b : Addr} {B : Bk} {s : LS} {left : Nat} {way : List Nat} {av : List Addr} (h : UnpAt mg H u l b B s left way av) : InsAt H [l, u] := by
  obtain ⟨dx, h1, h0, h2⟩ := h
  obtain ⟨C, d, fs, h⟩ := h0.ins
  intro a ha
  rcases List.mem_cons.mp ha with e | ha
  · exact ⟨_, _, _, by rw [e]; exact h⟩
  · exact ⟨_, _, _, by rw [List.mem_singleton.mp ha]; exact h1⟩
def sp_xUinit (mg : Str → Option Value) : Sp := fun vs H Q E => ∃ (u b dx : Addr) (B : Bk) (m : Int) (av : List Addr), vs = [.ref u, .ref b, .int m] ∧ H u = some (.ins (cadr mg "Unpacker") dx []) ∧ BookAt mg H b B ∧ b ≠ u ∧ BookOk B ∧ Taken H av ∧
  ((¬ (0 ≤ m ∧ m ≤ 2000) ∧ ∀ H', Ex H H' → E (.ref (cadr mg "BadCount")) none H') ∨ (∃ n : Nat, m = (n : Int) ∧ n ≤ 2000 ∧ ∀ l H', H l = none → ExS [u] H H' → UnpAt mg H' u l b B (LS.start B) n [] av → Q .non H'))
theorem qx_unpacker {mg : Str → Option Value} {σ : L2.St} {H : Hp} {t : TA} {Q : VK} {E : XK} {B : Bk} {b : Addr} {m : Int} (ha : EvA t σ H [.ref b, .int m]) (hb : BookAt mg H b B) (hB : BookOk B) {av : List Addr} (hav : Taken H av)
    (k : (¬ (0 ≤ m ∧ m ≤ 2000) ∧ ∀ H2, Ex H H2 → E (.ref (cadr mg "BadCount")) none H2) ∨ (∃ n : Nat, m = (n : Int) ∧ n ≤ 2000 ∧ ∀ u l H2, H u = none → H l = none → Ex H H2 → UnpAt mg H2 u l b B (LS.start B) n [] av → Q (.ref u) H2)) : tMake (cadr mg "Unpacker") (sp_xUinit mg) [] E t σ H Q :=
  er_mkr ha fun H1 x dx e1 hx hd hnx => by
    obtain ⟨dxb, hb⟩ := hb
    have n1 : b ≠ x := ne_of_none (e1 _ _ hb) hx
    have n2 : b ≠ dx := ne_of_none (e1 _ _ hb) hd
    refine ⟨x, b, dx, B, m, av, rfl, upd_same, ⟨dxb, by rw [upd_ne n1, upd_ne n2]; exact e1 _ _ hb⟩, n1, hB, taken_made (hav.ex e1) hx hd, ?_⟩
    rcases k with ⟨h0, k⟩ | ⟨n, hm, hn, k⟩
    · exact .inl ⟨h0, fun H2 e2 => k H2 (e1.trans (ex_made hx hd (ExS.of e2)))⟩
    refine .inr ⟨n, hm, hn, fun l H2 hl e2 h2 => ⟨rfl, k x l H2 (fresh_back e1 hx) (fresh_back e1 ?_) (e1.trans (ex_made hx hd e2)) h2⟩⟩
    have n3 : l ≠ x := fun z => by rw [z, upd_same] at hl; cases hl
    rw [upd_ne n3] at hl
    have n4 : l ≠ dx := fun z => by rw [z, upd_same] at hl; cases hl
    rw [upd_ne n4] at hl
    exact hl
theorem ok_Unpacker___init__ {f : Addr} {fd : FuncData} (T : Txt K mg) (F : Fun K "__init__" "Unpacker.__init__" s_Unpacker___init__ f fd) (N_Learner : Mkr P w K mg base "Learner" ["self", "book"] 5 (sp_Linit mg)) (C_is_whole : Cal P w K mg base "is_whole" ["value", "low", "high"] 1 sp_isw) : FnOk P w K mg base (L2.CX P w) 7 f fd ["self", "book", "many"] (sp_xUinit mg) := by
  refine F.okX sc_Unpacker___init__ (fun vs H Q E h => by obtain ⟨u, b, dx, B, n, av, rfl, _⟩ := h; rfl) (fun cdv A outer s H vs Q E hr h => ?_)
  obtain ⟨p, b, dx, B, m, av, rfl, hp, hb, hbp, hB, hav, hw⟩ := h
  have hm : p ∈ [p] := by simp
  refine ⟨_, (pss_cons (ps_if (pt_not (pt_val (pe_cal C_is_whole hr (by decide) (by rfl) (pa_cons (pv 2) (pa_cons pe_int (pa_cons (pe_globX (by rfl) T.g_LONGEST_TEXT) pa_nil)))))) (pss_one (ps_err T.ex_BadCount rfl (takes_of rfl rfl rfl rfl) (by rfl))) pss_nil)
      (pss_cons (ps_fld (pv 0) (pe_mkr N_Learner hr (by decide) (by rfl) (pa_cons (pv 1) pa_nil)) rfl)
      (pss_cons (ps_fld (pv 0) (pv 2) rfl)
      (pss_cons (ps_fld (pv 0) (pe_fld (pv 1) rfl) rfl)
      (pss_one (ps_fld (pv 0) pe_str rfl)))))), ?_⟩
  have tst : ∀ H3 : Hp, SpV sp_isw [.int m, .int 0, .int 2000] H3 (.bl (decide (0 ≤ m) && decide (m ≤ 2000))) := fun H3 => spv fun H4 _ Q E q => ⟨m, 0, 2000, rfl, q⟩
  rcases hw with ⟨hbad, q⟩ | ⟨n, rfl, hn, q⟩
  · refine q_when (b := true) (et_is (et_not (et_B (ev_cal (ea_cons (ev_var rfl) (ea_cons ev_c (ea_cons ev_c ea_nil))) (tst _)))) ?_) (fun _ H0 e0 => q H0 e0) (fun hx => nomatch hx)
    cases h1 : decide (0 ≤ m) with
    | false => rfl
    | true =>
      cases h2 : decide (m ≤ 2000) with
      | false => rfl
      | true => exact absurd ⟨of_decide_eq_true h1, of_decide_eq_true h2⟩ hbad
  refine q_when (b := false) (et_not (a := true) (et_B (ev_is (ev_cal (ea_cons (ev_var rfl) (ea_cons ev_c (ea_cons ev_c ea_nil))) (tst _)) (by rw [decide_eq_true (by omega), decide_eq_true (by omega)]; rfl)))) (fun hx => nomatch hx) (fun _ H0 e0 => ?_)
  have hp0 := e0 _ _ hp
  have hb0 := hb.ex e0
  refine q_fldM (i := 0) (ea_cons (ev_var rfl) ea_nil) rfl fun H1 x dxl e1 hx hd hnx => ?_
  obtain ⟨dxb, hb⟩ := hb0
  have n1 : b ≠ x := ne_of_none (e1 _ _ hb) hx
  have n2 : b ≠ dxl := ne_of_none (e1 _ _ hb) hd
  have px : p ≠ x := ne_of_none (e1 _ _ hp0) hx
  refine ⟨x, b, dxl, B, av, rfl, upd_same, ⟨dxb, by rw [upd_ne n1, upd_ne n2]; exact e1 _ _ hb⟩, n1, hB, taken_made ((hav.ex e0).ex e1) hx hd, fun H2 e2 a2 => ⟨rfl, _, dx, [], (e1.trans (ex_made hx hd e2)) _ _ hp0, T.cl_Unpacker, T.na_Unpacker_learner, by show 0 < 1000; decide, ?_⟩⟩
  have e12 := e1.trans (ex_made hx hd e2)
  have b2 := e12 _ _ hb
  have nbp : b ∉ [p] := by simpa using hbp
  have nxp : x ∉ [p] := by simpa using Ne.symm px
  have p2 := e12 _ _ hp0
  have x3 : ExS [p] H2 (upd H2 p (.ins (cadr mg "Unpacker") dx (putF "learner" (.ref x) []))) := ExS.refl.upd hm
  have p3 : upd H2 p (.ins (cadr mg "Unpacker") dx (putF "learner" (.ref x) [])) p = some (.ins (cadr mg "Unpacker") dx [("learner", .ref x)]) := upd_same
  have a3 := a2.exS x3 nxp (InsAt.one p2)
  have b3 := x3.at b2 nbp
  generalize upd H2 p (.ins (cadr mg "Unpacker") dx (putF "learner" (.ref x) [])) = G at x3 p3 a3 b3
  refine q_fld (ev_var rfl) (ev_var rfl) p3 T.cl_Unpacker T.na_Unpacker_left (by show 1 < 1000; decide) fun H4 e4 => ?_
  have x5 : ExS [p] H4 (upd H4 p (.ins (cadr mg "Unpacker") dx (putF "left" (.int (n : Int)) [("learner", .ref x)]))) := ExS.refl.upd hm
  have p5 : upd H4 p (.ins (cadr mg "Unpacker") dx (putF "left" (.int (n : Int)) [("learner", .ref x)])) p = some (.ins (cadr mg "Unpacker") dx [("learner", .ref x), ("left", .int (n : Int))]) := by
    rw [upd_same]
    (repeat (first | rw [pf_eq] | rw [pf_nil] | rw [pf_ne (by decide +kernel)]))
  have a5 := (a3.ex e4).exS x5 nxp (InsAt.one (e4 _ _ p3))
  have b5 := x5.at (e4 _ _ b3) nbp
  generalize upd H4 p (.ins (cadr mg "Unpacker") dx (putF "left" (.int (n : Int)) [("learner", .ref x)])) = G5 at x5 p5 a5 b5
  refine q_fld (ev_fld (ev_var rfl) b5 T.cl_Book T.na_Book_signs (bf_signs B)) (ev_var rfl) p5 T.cl_Unpacker T.na_Unpacker__signs (by show 2 < 1000; decide) fun H6 e6 => ?_
  have x7 : ExS [p] H6 (upd H6 p (.ins (cadr mg "Unpacker") dx (putF "_signs" (.str (tx B.ss)) [("learner", .ref x), ("left", .int (n : Int))]))) := ExS.refl.upd hm
  have p7 : upd H6 p (.ins (cadr mg "Unpacker") dx (putF "_signs" (.str (tx B.ss)) [("learner", .ref x), ("left", .int (n : Int))])) p = some (.ins (cadr mg "Unpacker") dx [("learner", .ref x), ("left", .int (n : Int)), ("_signs", .str (tx B.ss))]) := by
    rw [upd_same]
    (repeat (first | rw [pf_eq] | rw [pf_nil] | rw [pf_ne (by decide +kernel)]))
  have a7 := (a5.ex e6).exS x7 nxp (InsAt.one (e6 _ _ p5))
  generalize upd H6 p (.ins (cadr mg "Unpacker") dx (putF "_signs" (.str (tx B.ss)) [("learner", .ref x), ("left", .int (n : Int))])) = G7 at x7 p7 a7
  refine s_fld (ev_is ev_c str0) (ev_var rfl) p7 T.cl_Unpacker T.na_Unpacker__way (by show 3 < 1000; decide) fun H8 e8 => ?_
  have x9 : ExS [p] H8 (upd H8 p (.ins (cadr mg "Unpacker") dx (putF "_way" (.str (tx [])) [("learner", .ref x), ("left", .int (n : Int)), ("_signs", .str (tx B.ss))]))) := ExS.refl.upd hm
  refine q x _ (fresh_back (e0.trans e1) hx) (((ExS.of (ms := [p]) (e0.trans e12)).trans (x3.trans (ExS.of e4))).trans ((x5.trans (ExS.of e6)).trans ((x7.trans (ExS.of e8)).trans x9))) ⟨dx, ?_, (a7.ex e8).exS x9 nxp (InsAt.one (e8 _ _ p7)), px, n1, hbp⟩
  rw [upd_same]
  unfold uf
  (repeat (first | rw [pf_eq] | rw [pf_nil] | rw [pf_ne (by decide +kernel)]))
def sp_Lheld (mg : Str → Option Value) : Sp := fun vs H Q _ => ∃ (l b dx sh wd : Addr) (ws : List Nat), vs = [.ref l] ∧ H l = some (.ins (cadr mg "Learner") dx (lf sh wd ws b)) ∧ ∀ p H', H p = none → Ex H H' → H' p = some (.tup [.ref sh, .ref wd, .str (tx ws)]) → Q (.ref p) H'
theorem ok_Learner_held {f : Addr} {fd : FuncData} (T : Txt K mg) (F : Fun K "held" "Learner.held" s_Learner_held f fd) : FnOk P w K mg base CX0 1 f fd ["self"] (sp_Lheld mg) := by
  refine F.ok sc_Learner_held (fun vs H Q E h => by obtain ⟨l, b, dx, sh, wd, ws, rfl, _⟩ := h; rfl) (fun cdv A outer s0 H vs Q E hr h => ?_)
  obtain ⟨l, b, dx, sh, wd, ws, rfl, hl, q⟩ := h
  refine ⟨_, (pss_one (ps_ret (pe_tup (pa_cons (pe_fld (pv 0) rfl) (pa_cons (pe_fld (pv 0) rfl) (pa_cons (pe_fld (pv 0) rfl) pa_nil)))))), ?_⟩
  exact s_retU (eu_tup (ea_cons (ev_fld (ev_var rfl) hl T.cl_Learner T.na_Learner_shares (lf_shares _ _ _ _)) (ea_cons (ev_fld (ev_var rfl) hl T.cl_Learner T.na_Learner_words (lf_words _ _ _ _)) (ea_cons (ev_fld (ev_var rfl) hl T.cl_Learner T.na_Learner_waits (lf_waits _ _ _ _)) ea_nil))) (by simp)) q
def sp_Uarr (mg : Str → Option Value) : Sp := fun vs H Q _ => ∃ (u l b : Addr) (B : Bk) (s : LS) (left : Nat) (c : Nat) (av : List Addr), vs = [.ref u] ∧ UnpAt mg H u l b B s (left + 1) (code1 B s c) av ∧ Taken H av ∧ BookAt mg H b B ∧ BookOk B ∧ s.Ok B ∧ c ∈ B.ss ∧
  ∀ H', ExS [l, u] H H' → UnpAt mg H' u l b B (s.step B c) left [] av → Q (.str (tx [c])) H'
theorem ok_Unpacker__arrive {f : Addr} {fd : FuncData} (T : Txt K mg) (F : Fun K "_arrive" "Unpacker._arrive" s_Unpacker__arrive f fd) (M_Learner_took : Met P w K mg base "Learner" "took" ["self", "sign"] 6 (sp_took mg)) : FnOk P w K mg base CX0 7 f fd ["self"] (sp_Uarr mg) := by
  refine F.ok sc_Unpacker__arrive (fun vs H Q E h => by obtain ⟨u, l, b, B, s, left, c, av, rfl, _⟩ := h; rfl) (fun cdv A outer s0 H vs Q E hr h => ?_)
  obtain ⟨u, l, b, B, s, left, c, av, rfl, hU, hav, hb, hB, hO, hc, q⟩ := h
  obtain ⟨dx, hu, hl, nul, nbl, nbu⟩ := id hU
  obtain ⟨dxl, sh, wd, il, h3, h4, _⟩ := id hl
  have hss := hB.1.2.1
  refine ⟨_, (pss_cons (ps_set (i := 1) sc_Unpacker__arrive.nd rfl (Or.inl rfl) (pe_ix ix_str (pe_fld (pv 0) rfl) (pe_bm PySem.F.plainAttrs_list PySem.F.slot_list_index PySem.F.type_list_index mt_index (pe_fld (pe_fld (pv 0) rfl) rfl) (pa_cons (pe_fld (pv 0) rfl) pa_nil)) (fun _ _ => rfl)))
      (pss_cons (ps_expr (pe_met M_Learner_took hr (by decide) (pe_fld (pv 0) rfl) (pa_cons (pv 1) pa_nil)))
      (pss_cons (ps_fldaug (pv 0) pe_int in_sub)
      (pss_cons (ps_fld (pv 0) pe_str rfl)
      (pss_one (ps_ret (pv 1))))))), ?_⟩
  refine q_asg (ev_ixS1 (ev_fld (ev_var rfl) hu T.cl_Unpacker T.na_Unpacker__signs (uf_signs _ _ _ _)) (ev_idxW (ev_fld (ev_fld (ev_var rfl) hu T.cl_Unpacker T.na_Unpacker_learner (uf_learner _ _ _ _)) il T.cl_Learner T.na_Learner_words (lf_words _ _ _ _)) (ea_cons (ev_fld (ev_var rfl) hu T.cl_Unpacker T.na_Unpacker__way (uf_way _ _ _ _)) ea_nil) (sq_of h4) (code1_get hO hc) (fun m z hm hz e => by rw [e] at hz; have := code_idx hO hc hz; omega)) (idx_at hc) (by omega)) fun H1 e1 => ?_
  have hu1 := e1 _ _ hu
  have il1 := e1 _ _ il
  refine q_dropQ (er_met (ev_fld (ev_var rfl) hu1 T.cl_Unpacker T.na_Unpacker_learner (uf_learner _ _ _ _)) il1 (by unfold lf; (repeat (first | exact lk_eq | exact lk_nil | (refine (lk_ne (by decide +kernel)).trans ?_)))) (ea_cons (ev_var rfl) ea_nil) fun H2 e2 => ?_)
  have e12 := e1.trans e2
  refine ⟨l, b, B, s, c, av, rfl, hl.ex e12, hav.ex e12, hb.ex e12, nbl, hB, hO, hc, fun H3 x3 a3 => ?_⟩
  have nlu : l ∉ [u] := by simpa using Ne.symm nul
  have hm : u ∈ [u] := by simp
  have u3 := x3 _ _ (by simpa using nul) (e12 _ _ hu)
  refine q_faugI (a := ((left + 1 : Nat) : Int)) (b := 1) (ev_var rfl) u3 T.cl_Unpacker T.na_Unpacker_left (uf_left _ _ _ _) ev_c (uf_len _ _ _ _) fun H4 e4 => ?_
  rw [show (((left + 1 : Nat) : Int) - 1) = ((left : Nat) : Int) by omega, uf_put_left]
  have x5 : ExS [u] H4 (upd H4 u (.ins (cadr mg "Unpacker") dx (uf l left B.ss (code1 B s c)))) := ExS.refl.upd hm
  have u5 : upd H4 u (.ins (cadr mg "Unpacker") dx (uf l left B.ss (code1 B s c))) u = some (.ins (cadr mg "Unpacker") dx (uf l left B.ss (code1 B s c))) := upd_same
  have a5 := (a3.ex e4).exS x5 nlu (InsAt.one (e4 _ _ u3))
  generalize upd H4 u (.ins (cadr mg "Unpacker") dx (uf l left B.ss (code1 B s c))) = G5 at x5 u5 a5
  refine q_fld (ev_is ev_c str0) (ev_var rfl) u5 T.cl_Unpacker T.na_Unpacker__way (uf_len _ _ _ _) fun H6 e6 => ?_
  rw [uf_put_way]
  have x7 : ExS [u] H6 (upd H6 u (.ins (cadr mg "Unpacker") dx (uf l left B.ss []))) := ExS.refl.upd hm
  have u7 : upd H6 u (.ins (cadr mg "Unpacker") dx (uf l left B.ss [])) u = some (.ins (cadr mg "Unpacker") dx (uf l left B.ss [])) := upd_same
  have a7 := (a5.ex e6).exS x7 nlu (InsAt.one (e6 _ _ u5))
  generalize upd H6 u (.ins (cadr mg "Unpacker") dx (uf l left B.ss [])) = G7 at x7 u7 a7
  refine s_ret (ev_var rfl) fun H8 e8 => ?_
  have m1 : ∀ a ∈ [l], a ∈ [l, u] := by simp
  have m2 : ∀ a ∈ [u], a ∈ [l, u] := by simp
  exact q H8 (((ExS.of e12).trans (x3.mono m1)).trans (((ExS.of e4).trans (x5.mono m2)).trans (((ExS.of e6).trans (x7.mono m2)).trans (ExS.of e8)))) ⟨dx, e8 _ _ u7, a7.ex e8, nul, nbl, nbu⟩
def sp_Lback (mg : Str → Option Value) : Sp := fun vs H Q _ => ∃ (l p b dx sh wd sh0 wd0 : Addr) (ws ws0 : List Nat), vs = [.ref l, .ref p] ∧ H l = some (.ins (cadr mg "Learner") dx (lf sh0 wd0 ws0 b)) ∧ H p = some (.tup [.ref sh, .ref wd, .str (tx ws)]) ∧
  ∀ H', ExS [l] H H' → H' l = some (.ins (cadr mg "Learner") dx (lf sh wd ws b)) → Q .non H'
theorem ok_Learner_go_back {f : Addr} {fd : FuncData} (T : Txt K mg) (F : Fun K "go_back" "Learner.go_back" s_Learner_go_back f fd) : FnOk P w K mg base CX0 1 f fd ["self", "held"] (sp_Lback mg) := by
  refine F.ok sc_Learner_go_back (fun vs H Q E h => by obtain ⟨l, p, b, dx, sh, wd, sh0, wd0, ws, ws0, rfl, _⟩ := h; rfl) (fun cdv A outer s0 H vs Q E hr h => ?_)
  obtain ⟨l, p, b, dx, sh, wd, sh0, wd0, ws, ws0, rfl, hl, hp, q⟩ := h
  refine ⟨_, (pss_one (ps_asg (pv 1) (pg_tup rfl (pgs_cons (pg_fld (pv 0)) (pgs_cons (pg_fld (pv 0)) (pgs_cons (pg_fld (pv 0)) pgs_nil)))))), ?_⟩
  refine (ev_var rfl) H (Ex.refl H) _ fun H1 e1 => ?_
  have hm : l ∈ [l] := by simp
  refine ⟨p, _, rfl, st_of (e1 _ _ hp), rfl, _, _, rfl, g_fld (ev_var rfl) (e1 _ _ hl) T.cl_Learner T.na_Learner_shares (by show 4 < 1000; decide) fun H2 e2 => ?_⟩
  rw [lf_put_shares]
  refine ⟨_, _, rfl, g_fld (ev_var rfl) upd_same T.cl_Learner T.na_Learner_words (by show 4 < 1000; decide) fun H3 e3 => ?_⟩
  rw [lf_put_words]
  refine ⟨_, _, rfl, g_fld (ev_var rfl) upd_same T.cl_Learner T.na_Learner_waits (by show 4 < 1000; decide) fun H4 e4 => ?_⟩
  rw [lf_put_waits]
  refine ⟨rfl, q _ ?_ upd_same⟩
  exact (((ExS.of (e1.trans e2)).upd hm).trans ((ExS.of e3).upd hm)).trans ((ExS.of e4).upd hm)
def sp_Ufol (mg : Str → Option Value) : Sp := fun vs H Q _ => ∃ (u l b : Addr) (B : Bk) (s : LS) (left : Nat) (way bs kn : List Nat) (s' : LS) (left' : Nat) (way' r' : List Nat) (av : List Addr), vs = [.ref u, .str (tx bs)] ∧ UnpAt mg H u l b B s left way av ∧ Taken H av ∧ BookAt mg H b B ∧ BookOk B ∧ s.Ok B ∧
  Fol B s left way bs kn s' left' way' r' ∧ left ≤ 2000 ∧ bs.length ≤ 90000 ∧ way.length + bs.length ≤ 95000 ∧
  ∀ p H', H p = none → ExS [l, u] H H' → H' p = some (.tup [.str (tx kn), .int (((bs.length - r'.length : Nat)) : Int)]) → UnpAt mg H' u l b B s' left' way' av → Q (.ref p) H'
/-- where the loop stands -/
def AtF (mg : Str → Option Value) (H : Hp) (u l b : Addr) (B : Bk) (left0 : Nat) (bs kn way0 : List Nat) (s' : LS) (left' : Nat) (way' r' : List Nat) (av : List Addr) (m : Nat) (σ' : L2.St) (H' : Hp) : Prop :=
  ∃ (s1 : LS) (n1 : Nat) (w1 acc kn2 : List Nat) (us : Nat), σ' = [some (.ref u), some (.str (tx bs)), some (.str (tx acc)), some (.int (us : Int))] ∧ ExS [l, u] H H' ∧ UnpAt mg H' u l b B s1 n1 w1 av ∧ Taken H' av ∧ s1.Ok B ∧ Fol B s1 n1 w1 (bs.drop us) kn2 s' left' way' r' ∧ acc ++ kn2 = kn ∧ us ≤ bs.length ∧ w1.length ≤ way0.length + us ∧ acc.length + n1 = left0 ∧ m = n1 + (bs.length - us)
theorem ok_Unpacker__follow {f : Addr} {fd : FuncData} (T : Txt K mg) (F : Fun K "_follow" "Unpacker._follow" s_Unpacker__follow f fd) (M_Unpacker__arrive : Met P w K mg base "Unpacker" "_arrive" ["self"] 7 (sp_Uarr mg)) : FnOk P w K mg base CX0 8 f fd ["self", "bits"] (sp_Ufol mg) := by
  refine F.ok sc_Unpacker__follow (fun vs H Q E h => by obtain ⟨u, l, b, B, s, left, way, bs, kn, s', left', way', r', av, rfl, _⟩ := h; rfl) (fun cdv A outer s0 H vs Q E hr h => ?_)
  obtain ⟨u, l, b, B, s, left, way, bs, kn, s', left', way', r', av, rfl, hU, hav, hb, hB, hO, hF, hl1, hl2, hl3, q⟩ := h
  refine ⟨_, (pss_cons (ps_set (i := 2) sc_Unpacker__follow.nd rfl (Or.inl rfl) pe_str)
      (pss_cons (ps_set (i := 3) sc_Unpacker__follow.nd rfl (Or.inl rfl) pe_int)
      (pss_cons (ps_while PassesOwn.never (pt_cmpR op_gt (pe_fld (pv 0) rfl) pe_int (nomark _)) (pss_one (ps_if (pt_cmpR op_in_seq (pe_fld (pv 0) rfl) (pe_fld (pe_fld (pv 0) rfl) rfl) (by rfl)) (pss_one (ps_aug (i := 2) sc_Unpacker__follow.nd rfl (Or.inl rfl) (pe_met0 M_Unpacker__arrive hr (by decide) (pv 0)) in_addS)) (pss_one (ps_if (pt_cmpR op_lt (pv 3) (pe_callB call_len_str (by rfl) T.b_len PySem.boot_len (pa_cons (pv 1) pa_nil)) (nomark _)) (pss_cons (ps_fldaug (pv 0) (pe_ix ix_str (pv 1) (pv 3) (fun _ _ => rfl)) in_addS)
      (pss_one (ps_aug (i := 3) sc_Unpacker__follow.nd rfl (Or.inl rfl) pe_int ip_add))) (pss_one ps_break))))))
      (pss_one (ps_ret (pe_tup (pa_cons (pv 2) (pa_cons (pv 3) pa_nil)))))))), ?_⟩
  refine q_asg (ev_is ev_c str0) fun H1 e1 => ?_
  refine q_asg ev_c fun H2 e2 => ?_
  have e12 := e1.trans e2
  have fin : ∀ (acc : List Nat) (us : Nat) (H3 : Hp), ExS [l, u] H H3 → UnpAt mg H3 u l b B s' left' way' av → acc = kn → r' = bs.drop us → us ≤ bs.length → tRet (tTup (tCons (tVar 2) (tCons (tVar 3) tNil))) { nx := fun _ H' => Q .non H', rt := Q } [some (.ref u), some (.str (tx bs)), some (.str (tx acc)), some (.int (us : Int))] H3 := fun acc us H3 x3 U3 ea er hus => by
    subst ea
    refine s_retU (eu_tup (ea_cons (ev_var rfl) (ea_cons (ev_var rfl) ea_nil)) (by simp)) fun p H4 hp e4 h4 => ?_
    have hpn : H p = none := x3.back hp fun z => by
      obtain ⟨o, ho⟩ := U3.taken p z
      rw [hp] at ho
      cases ho
    refine q p H4 hpn (x3.trans (ExS.of e4)) ?_ (U3.ex e4)
    rw [h4, er, List.length_drop, show bs.length - (bs.length - us) = us by omega]
  refine q_while (AtF mg H u l b B left bs kn way s' left' way' r' av) (left + bs.length) ⟨s, left, way, [], kn, 0, rfl, ExS.of e12, hU.ex e12, hav.ex e12, hO, by simpa using hF, rfl, by omega, by omega, by simp, by omega⟩ (fun m σ' H' hw => ?_)
  obtain ⟨s1, n1, w1, acc, kn2, us, rfl, x3, U3, v3, hO1, hF1, hkn, hus, hw1, hac, rfl⟩ := hw
  obtain ⟨dx, hu, hL, nul, nbl, nbu⟩ := id U3
  obtain ⟨dxl, sh, wd, il, h3, h4, _⟩ := id hL
  refine ⟨decide ((0 : Int) < (n1 : Int)), et_test (ev_op (ev_fld (ev_var rfl) hu T.cl_Unpacker T.na_Unpacker_left (uf_left _ _ _ _)) ev_c rv_I0), fun hb2 H4 e4 => ?_, fun hb2 H4 e4 => ?_⟩
  · have hn1 := of_decide_eq_true hb2
    refine ⟨fun σ2 H2 => ∃ m', m' < n1 + (bs.length - us) ∧ AtF mg H u l b B left bs kn way s' left' way' r' av m' σ2 H2, fun _ _ h => h, ?_⟩
    have hu4 := e4 _ _ hu
    have il4 := e4 _ _ il
    have h44 := e4 _ _ h4
    have b4 : BookAt mg H4 b B := (hb.exS x3 (by simp [nbl, nbu])).ex e4
    refine s_if (b := decide (w1 ∈ HF.codes s1.ns)) (et_test (ev_op (ev_fld (ev_var rfl) hu4 T.cl_Unpacker T.na_Unpacker__way (uf_way _ _ _ _)) (ev_fld (ev_fld (ev_var rfl) hu4 T.cl_Unpacker T.na_Unpacker_learner (uf_learner _ _ _ _)) il4 T.cl_Learner T.na_Learner_words (lf_words _ _ _ _)) (rv_inW (sq_of h44)))) (fun hx H5 e5 => ?_) (fun hx H5 e5 => ?_)
    · have hx := of_decide_eq_true hx
      obtain ⟨n2, rfl⟩ : ∃ n2, n1 = n2 + 1 := ⟨n1 - 1, by omega⟩
      generalize hd : bs.drop us = rest at hF1
      cases hF1 with
      | bit hw _ => exact absurd hx hw
      | stuck hw => exact absurd hx hw
      | arrive hc ec hF2 =>
        rename_i c kn3
        subst ec
        subst hd
        have hu5 := e5 _ _ hu4
        refine ⟨.str (tx acc), rfl, er_met (ev_var rfl) hu5 (by unfold uf; (repeat (first | exact lk_eq | exact lk_nil | (refine (lk_ne (by decide +kernel)).trans ?_)))) ea_nil fun H6 e6 => ?_⟩
        have e46 := (e4.trans e5).trans e6
        refine ⟨u, l, b, B, s1, n2, c, av, rfl, U3.ex e46, v3.ex e46, (b4.ex e5).ex e6, hB, hO1, hc, fun H7 x7 U7 => ?_⟩
        refine ⟨tx acc, tx [c], rfl, rfl, by rw [tx_len, tx_len]; exact sz_of (by simp; omega), ?_⟩
        rw [tx_app]
        exact ⟨n2 + (bs.length - us), by omega, s1.step B c, n2, [], acc ++ [c], kn3, us, rfl, (x3.trans (ExS.of e46)).trans x7, U7, (v3.ex e46).exS x7 U7.taken, LS.step_ok hB hO1, hF2, (List.append_assoc _ _ _).trans hkn, hus, Nat.zero_le _, by rw [List.length_append, List.length_singleton]; omega, rfl⟩
    · have hx := of_decide_eq_false hx
      obtain ⟨n2, rfl⟩ : ∃ n2, n1 = n2 + 1 := ⟨n1 - 1, by omega⟩
      have hu5 := e5 _ _ hu4
      refine s_if (b := decide ((us : Int) < (bs.length : Int))) (et_is (et_test (ev_op (ev_var rfl) (ev_is (ev_lenZ (ev_var rfl) (by rw [tx_len]; exact sz_of (by omega))) (by rw [tx_len])) rv_I0)) rfl) (fun hy H6 e6 => ?_) (fun hy H6 e6 => ?_)
      · have hy := of_decide_eq_true hy
        have hlt : us < bs.length := by omega
        have hu6 := e6 _ _ hu5
        have hd : bs.drop us = bs[us] :: bs.drop (us + 1) := List.drop_eq_getElem_cons hlt
        rw [hd] at hF1
        cases hF1 with
        | arrive hc ec _ => exact absurd (ec ▸ code_mem hO1 hc) hx
        | bit hw hF2 =>
          refine q_faugS (a := w1) (b := [bs[us]]) (ev_var rfl) hu6 T.cl_Unpacker T.na_Unpacker__way (uf_way _ _ _ _) (ev_ixS1 (ev_var rfl) (ev_var rfl) (List.getElem?_eq_getElem hlt) (by omega)) (by simp; omega) (uf_len _ _ _ _) fun H7 e7 => ?_
          rw [uf_put_way]
          have e47 := ((e4.trans e5).trans e6).trans e7
          have hm : u ∈ [u] := by simp
          have x8 : ExS [u] H7 (upd H7 u (.ins (cadr mg "Unpacker") dx (uf l (n2 + 1) B.ss (w1 ++ [bs[us]])))) := ExS.refl.upd hm
          have u8 : upd H7 u (.ins (cadr mg "Unpacker") dx (uf l (n2 + 1) B.ss (w1 ++ [bs[us]]))) u = some (.ins (cadr mg "Unpacker") dx (uf l (n2 + 1) B.ss (w1 ++ [bs[us]]))) := upd_same
          have a8 := (hL.ex e47).exS x8 (by simpa using Ne.symm nul) (InsAt.one (e47 _ _ hu))
          have v8 := (v3.ex e47).exS x8 (Taken.one u8)
          generalize upd H7 u (.ins (cadr mg "Unpacker") dx (uf l (n2 + 1) B.ss (w1 ++ [bs[us]]))) = G8 at x8 u8 a8 v8
          refine s_aug rfl ev_c fun H9 e9 => ?_
          have m2 : ∀ a ∈ [u], a ∈ [l, u] := by simp
          exact ⟨n2 + 1 + (bs.length - (us + 1)), by omega, s1, n2 + 1, w1 ++ [bs[us]], acc, kn2, us + 1, rfl, ((x3.trans (ExS.of e47)).trans (x8.mono m2)).trans (ExS.of e9), ⟨dx, e9 _ _ u8, a8.ex e9, nul, nbl, nbu⟩, v8.ex e9, hO1, hF2, hkn, hlt, by rw [List.length_append, List.length_singleton]; omega, hac, rfl⟩
      · have hy := of_decide_eq_false hy
        have hd : bs.drop us = [] := List.drop_of_length_le (by omega)
        rw [hd] at hF1
        cases hF1 with
        | arrive hc ec _ => exact absurd (ec ▸ code_mem hO1 hc) hx
        | stuck hw =>
          rw [List.append_nil] at hkn
          exact fin acc us H6 (x3.trans (ExS.of ((e4.trans e5).trans e6))) (U3.ex ((e4.trans e5).trans e6)) hkn hd.symm hus
  · have hn1 := of_decide_eq_false hb2
    obtain rfl : n1 = 0 := by omega
    cases hF1 with
    | done =>
      rw [List.append_nil] at hkn
      exact fin acc us H4 (x3.trans (ExS.of e4)) (U3.ex e4) hkn rfl hus
def sp_xput (mg : Str → Option Value) : Sp := fun vs H Q E => ∃ (u l b : Addr) (B : Bk) (s : LS) (left : Nat) (way bs : List Nat) (av : List Addr), vs = [.ref u, .str (tx bs)] ∧ UnpAt mg H u l b B s left way av ∧ Taken H av ∧ BookAt mg H b B ∧ BookOk B ∧ s.Ok B ∧ left ≤ 2000 ∧ bs.length ≤ 90000 ∧ way.length + bs.length ≤ 95000 ∧
  ((BitsB bs = false ∧ ∀ H', Ex H H' → E (.ref (cadr mg "BadBit")) none H') ∨
   (BitsB bs = true ∧ ∃ (kn : List Nat) (s' : LS) (left' : Nat) (way' r' : List Nat), Fol B s left way bs kn s' left' way' r' ∧
     (r' ≠ [] → ∀ H', ExS [l, u] H H' → UnpAt mg H' u l b B s left way av → E (.ref (cadr mg "Loose")) none H') ∧
     (r' = [] → ∀ H', ExS [l, u] H H' → UnpAt mg H' u l b B s' left' way' av → Q (.str (tx kn)) H')))
theorem ok_Unpacker_put {f : Addr} {fd : FuncData} (T : Txt K mg) (F : Fun K "put" "Unpacker.put" s_Unpacker_put f fd) (C_check_bits : CalX P w K mg base "check_bits" ["bits"] 1 (sp_xB mg)) (M_Unpacker__follow : Met P w K mg base "Unpacker" "_follow" ["self", "bits"] 8 (sp_Ufol mg)) (M_Learner_held : Met P w K mg base "Learner" "held" ["self"] 1 (sp_Lheld mg)) (M_Learner_go_back : Met P w K mg base "Learner" "go_back" ["self", "held"] 1 (sp_Lback mg)) : FnOk P w K mg base (L2.CX P w) 9 f fd ["self", "bits"] (sp_xput mg) := by
  refine F.okX sc_Unpacker_put (fun vs H Q E h => by obtain ⟨u, l, b, B, s, left, way, bs, av, rfl, _⟩ := h; rfl) (fun cdv A outer s0 H vs Q E hr h => ?_)
  obtain ⟨u, l, b, B, s, left, way, bs, av, rfl, hU, hav, hb, hB, hO, hl1, hl2, hl3, hw⟩ := h
  refine ⟨_, (pss_cons (ps_expr (pe_calX C_check_bits (pass_on (E := E) rfl rfl rfl rfl) hr (by decide) (by rfl) (pa_cons (pv 1) pa_nil)))
      (pss_cons (ps_par3 (i := 2) (j := 3) (l := 4) rfl sc_Unpacker_put.nd rfl rfl rfl (by decide) (by decide) (by decide) rfl rfl rfl (pa_cons (pe_met0 M_Learner_held hr (by decide) (pe_fld (pv 0) rfl)) (pa_cons (pe_fld (pv 0) rfl) (pa_cons (pe_fld (pv 0) rfl) pa_nil))) (by rfl))
      (pss_cons (ps_asg (pe_met M_Unpacker__follow hr (by decide) (pv 0) (pa_cons (pv 1) pa_nil)) (pg_tup rfl (pgs_cons (pg_name (i := 5) sc_Unpacker_put.nd rfl (Or.inl rfl)) (pgs_cons (pg_name (i := 6) sc_Unpacker_put.nd rfl (Or.inl rfl)) pgs_nil))))
      (pss_cons (ps_if (pt_cmpR op_lt (pv 6) (pe_callB call_len_str (by rfl) T.b_len PySem.boot_len (pa_cons (pv 1) pa_nil)) (nomark _)) (pss_cons (ps_expr (pe_met M_Learner_go_back hr (by decide) (pe_fld (pv 0) rfl) (pa_cons (pv 2) pa_nil)))
      (pss_cons (ps_asg (pe_tup (pa_cons (pv 3) (pa_cons (pv 4) pa_nil))) (pg_tup rfl (pgs_cons (pg_fld (pv 0)) (pgs_cons (pg_fld (pv 0)) pgs_nil))))
      (pss_one (ps_err T.ex_Loose rfl (takes_of rfl rfl rfl rfl) (by rfl))))) pss_nil)
      (pss_one (ps_ret (pv 5))))))), ?_⟩
  refine q_dropQ (er_cal (ea_cons (ev_var rfl) ea_nil) fun H0 e0 => ?_)
  rcases hw with ⟨hbad, q⟩ | ⟨hgood, kn, s', left', way', r', hF, qL, qK⟩
  · exact ⟨bs, rfl, by rw [hbad]; exact fun H2 e2 => q H2 (e0.trans e2)⟩
  refine ⟨bs, rfl, ?_⟩
  rw [hgood]
  intro H1 e1'
  have e1 := e0.trans e1'
  obtain ⟨dx, hu, hL, nul, nbl, nbu⟩ := id (hU.ex e1)
  obtain ⟨dxl, sh, wd, il, h3, h4, a3, a4⟩ := id hL
  refine er_met (ev_fld (ev_var rfl) hu T.cl_Unpacker T.na_Unpacker_learner (uf_learner _ _ _ _)) il (by unfold lf; (repeat (first | exact lk_eq | exact lk_nil | (refine (lk_ne (by decide +kernel)).trans ?_)))) ea_nil fun H2 e2 => ?_
  refine ⟨l, b, dxl, sh, wd, _, rfl, e2 _ _ il, fun p H3 hp e3 h3' => ?_⟩
  have e23 := e2.trans e3
  refine (ea_cons (ev_fld (ev_var rfl) (e23 _ _ hu) T.cl_Unpacker T.na_Unpacker_left (uf_left _ _ _ _)) (ea_cons (ev_fld (ev_var rfl) (e23 _ _ hu) T.cl_Unpacker T.na_Unpacker__way (uf_way _ _ _ _)) ea_nil)) H3 (Ex.refl _) _ fun H4 e4 => ?_
  refine ⟨_, _, _, rfl, ?_⟩
  have e14 := e1.trans (e23.trans e4)
  have e24 := e23.trans e4
  refine er_met (ev_var rfl) (e24 _ _ hu) (by unfold uf; (repeat (first | exact lk_eq | exact lk_nil | (refine (lk_ne (by decide +kernel)).trans ?_)))) (ea_cons (ev_var rfl) ea_nil) fun H5 e5 => ?_
  have e15 := e14.trans e5
  refine ⟨u, l, b, B, s, left, way, bs, kn, s', left', way', r', av, rfl, hU.ex e15, hav.ex e15, hb.ex e15, hB, hO, hF, hl1, hl2, hl3, fun r H6 hr6 x6 h6 U6 => ?_⟩
  refine ⟨r, [.str (tx kn), .int (((bs.length - r'.length : Nat)) : Int)], rfl, st_of h6, rfl, _, [_], rfl, _, [], rfl, rfl, ?_⟩
  obtain ⟨-, -, -, -, hr', -, -⟩ := hF.ok hB hO
  have hii : InsAt H1 [l, u] := (hU.ex e1).insAt
  have nsh := hii.not h3
  have nwd := hii.not h4
  have hsh6 := x6 _ _ nsh ((e24.trans e5) _ _ h3)
  have hwd6 := x6 _ _ nwd ((e24.trans e5) _ _ h4)
  have np : p ∉ [l, u] := fun z => by
    rcases List.mem_cons.mp z with z | z
    · rw [z, e2 _ _ il] at hp; cases hp
    · rw [List.mem_singleton.mp z, e2 _ _ hu] at hp; cases hp
  have hp6 := x6 _ _ np ((e4.trans e5) _ _ h3')
  refine q_when (b := decide (r' ≠ [])) (et_is (et_test (ev_op (ev_var rfl) (ev_lenZ (ev_var rfl) (by rw [tx_len]; exact sz_of (by omega))) rv_I0)) ?_) (fun hx H7 e7 => ?_) (fun hx H7 e7 => ?_)
  · rw [tx_len]
    refine decide_eq_decide.mpr ?_
    cases r' with
    | nil => simp
    | cons a r => simp only [List.length_cons] at hr' ⊢; simp; omega
  · obtain ⟨dx7, u7, L7, _⟩ := id (U6.ex e7)
    obtain ⟨dxl7, sh7, wd7, il7, _⟩ := id L7
    refine q_dropQ (er_met (ev_fld (ev_var rfl) u7 T.cl_Unpacker T.na_Unpacker_learner (uf_learner _ _ _ _)) il7 (by unfold lf; (repeat (first | exact lk_eq | exact lk_nil | (refine (lk_ne (by decide +kernel)).trans ?_)))) (ea_cons (ev_var rfl) ea_nil) fun H8 e8 => ?_)
    refine ⟨l, p, b, dxl7, sh, wd, sh7, wd7, s.ws, s'.ws, rfl, e8 _ _ il7, (e7.trans e8) _ _ hp6, fun H9 x9 h9 => ?_⟩
    have nul' : u ∉ [l] := by simpa using nul
    have nlu : l ∉ [u] := by simpa using Ne.symm nul
    have u9 := x9 _ _ nul' (e8 _ _ u7)
    have hm : u ∈ [u] := by simp
    refine q_asgU (eu_tup (ea_cons (ev_var rfl) (ea_cons (ev_var rfl) ea_nil)) (by simp)) fun q9 H10 hq9 e10 h10 => ⟨q9, [_, _], rfl, st_of h10, rfl, _, [_], rfl, g_fld (ev_var rfl) (e10 _ _ u9) T.cl_Unpacker T.na_Unpacker_left (uf_len _ _ _ _) fun H11 e11 => ?_⟩
    rw [uf_put_left]
    refine ⟨_, [], rfl, g_fld (ev_var rfl) upd_same T.cl_Unpacker T.na_Unpacker__way (uf_len _ _ _ _) fun H12 e12 => ⟨rfl, ?_⟩⟩
    rw [uf_put_way]
    have y1 : ExS [u] H9 H11 := ExS.of (e10.trans e11)
    have y2 := ((y1.upd (o := .ins (cadr mg "Unpacker") dx7 (uf l left B.ss way')) hm).trans (ExS.of e12)).upd (o := .ins (cadr mg "Unpacker") dx7 (uf l left B.ss way)) hm
    have m1 : ∀ a ∈ [l], a ∈ [l, u] := by simp
    have m2 : ∀ a ∈ [u], a ∈ [l, u] := by simp
    have y3 := ((x6.trans (ExS.of (e7.trans e8))).trans (x9.mono m1)).trans (y2.mono m2)
    refine qL (of_decide_eq_true hx) _ ((ExS.of e15).trans y3) ⟨dx7, upd_same, ⟨dxl7, sh, wd, y2 _ _ nlu h9, y3 _ _ nsh ((e24.trans e5) _ _ h3), y3 _ _ nwd ((e24.trans e5) _ _ h4), a3, a4⟩, nul, nbl, nbu⟩
  · have hr0 : r' = [] := by
      have := of_decide_eq_false hx
      simpa using this
    exact s_ret (ev_var rfl) fun H8 e8 => qK hr0 H8 (((ExS.of e15).trans x6).trans (ExS.of (e7.trans e8))) (U6.ex (e7.trans e8))
/-- what unpack tells, or how it refuses -/
def UnpTo (B : Bk) (bs : List Nat) (m : Int) (o : Out) : Prop :=
  (¬ (0 ≤ m ∧ m ≤ 2000) ∧ o = .bad "BadCount") ∨ (∃ n : Nat, m = (n : Int) ∧ n ≤ 2000 ∧ ((BitsB bs = false ∧ o = .bad "BadBit") ∨ (BitsB bs = true ∧ ∃ (kn : List Nat) (s' : LS) (left' : Nat) (way' r' : List Nat), Fol B (LS.start B) n [] bs kn s' left' way' r' ∧
    ((r' ≠ [] ∧ o = .bad "Loose") ∨ (r' = [] ∧ 0 < left' ∧ o = .bad "Short") ∨ (r' = [] ∧ left' = 0 ∧ o = .ok (.str (tx kn)))))))
def sp_xunpack (mg : Str → Option Value) : Sp := fun vs H Q E => ∃ (b : Addr) (B : Bk) (bs : List Nat) (m : Int) (o : Out), vs = [.ref b, .str (tx bs), .int m] ∧ BookAt mg H b B ∧ BookOk B ∧ bs.length ≤ 90000 ∧ UnpTo B bs m o ∧ RetX mg o H Q E
theorem ok_unpack {f : Addr} {fd : FuncData} (T : Txt K mg) (F : Fun K "unpack" "unpack" s_unpack f fd) (N_Unpacker : MkrX P w K mg base "Unpacker" ["self", "book", "many"] 7 (sp_xUinit mg)) (M_Unpacker_put : MetX P w K mg base "Unpacker" "put" ["self", "bits"] 9 (sp_xput mg)) : FnOk P w K mg base (L2.CX P w) 10 f fd ["book", "bits", "many"] (sp_xunpack mg) := by
  refine F.okX sc_unpack (fun vs H Q E h => by obtain ⟨b, B, bs, m, o, rfl, _⟩ := h; rfl) (fun cdv A outer s0 H vs Q E hr h => ?_)
  obtain ⟨b, B, bs, m, o, rfl, hb, hB, hlen, hU, q⟩ := h
  refine ⟨_, (pss_cons (ps_set (i := 3) sc_unpack.nd rfl (Or.inl rfl) (pe_mkrX N_Unpacker (pass_on (E := E) rfl rfl rfl rfl) hr (by decide) (by rfl) (pa_cons (pv 0) (pa_cons (pv 2) pa_nil))))
      (pss_cons (ps_set (i := 4) sc_unpack.nd rfl (Or.inl rfl) (pe_metX M_Unpacker_put (pass_on (E := E) rfl rfl rfl rfl) hr (by decide) (pv 3) (pa_cons (pv 1) pa_nil)))
      (pss_cons (ps_if (pt_cmpR op_gt (pe_fld (pv 3) rfl) pe_int (nomark _)) (pss_one (ps_err T.ex_Short rfl (takes_of rfl rfl rfl rfl) (by rfl))) pss_nil)
      (pss_one (ps_ret (pv 4)))))), ?_⟩
  refine q_asgQ (qx_unpacker (ea_cons (ev_var rfl) (ea_cons (ev_var rfl) ea_nil)) hb hB Taken.nil ?_)
  rcases hU with ⟨hbad, ho⟩ | ⟨n, hm, hn, hU⟩
  · exact .inl ⟨hbad, fun H2 e2 => by rw [ho] at q; exact q.bad e2⟩
  refine .inr ⟨n, hm, hn, fun u l H1 hu hl e1 U1 => ?_⟩
  obtain ⟨dx, u1, _⟩ := id U1
  have free : ∀ a ∈ [l, u], H a = none := fun a ha => by
    rcases List.mem_cons.mp ha with e | ha
    · rw [e]; exact hl
    · rw [List.mem_singleton.mp ha]; exact hu
  refine q_asgQ (er_met (ev_var rfl) u1 (by unfold uf; (repeat (first | exact lk_eq | exact lk_nil | (refine (lk_ne (by decide +kernel)).trans ?_)))) (ea_cons (ev_var rfl) ea_nil) fun H2 e2 => ?_)
  refine ⟨u, l, b, B, LS.start B, n, [], bs, [], rfl, U1.ex e2, Taken.nil, (hb.ex e1).ex e2, hB, LS.start_ok hB, hn, hlen, by simp; omega, ?_⟩
  rcases hU with ⟨h0, ho⟩ | ⟨h0, kn, s', left', way', r', hF, hU⟩
  · exact .inl ⟨h0, fun H3 e3 => by rw [ho] at q; exact q.bad ((e1.trans e2).trans e3)⟩
  refine .inr ⟨h0, kn, s', left', way', r', hF, fun hr H3 x3 U3 => ?_, fun hr H3 x3 U3 => ?_⟩
  · rcases hU with ⟨_, ho⟩ | ⟨h1, _⟩ | ⟨h1, _⟩
    · rw [ho] at q
      exact q.bad (x3.ex (e1.trans e2) free)
    · exact absurd h1 hr
    · exact absurd h1 hr
  · obtain ⟨dx3, u3, _⟩ := id U3
    have e13 := x3.ex (e1.trans e2) free
    refine q_when (b := decide (0 < left')) (et_is (et_test (ev_op (ev_fld (ev_var rfl) u3 T.cl_Unpacker T.na_Unpacker_left (uf_left _ _ _ _)) ev_c rv_I0)) (decide_eq_decide.mpr (by omega))) (fun hx H4 e4 => ?_) (fun hx H4 e4 => ?_)
    · rcases hU with ⟨h1, _⟩ | ⟨_, _, ho⟩ | ⟨_, h1, _⟩
      · exact absurd hr h1
      · rw [ho] at q
        exact q.bad (e13.trans e4)
      · exact absurd (of_decide_eq_true hx) (by omega)
    · rcases hU with ⟨h1, _⟩ | ⟨_, h1, _⟩ | ⟨_, _, ho⟩
      · exact absurd hr h1
      · exact absurd h1 (of_decide_eq_false hx)
      · rw [ho] at q
        exact s_ret (ev_var rfl) fun H5 e5 => q.ok (e13.trans (e4.trans e5))
def sp_isc : Sp := fun vs H Q _ => ∃ cs : List Nat, vs = [.str (tx cs)] ∧ cs.length ≤ 100000 ∧ RetV (.bl (isCt cs)) H Q
theorem strN0 : PySem.Str.ofString "0" = tx [48] := by decide +kernel
theorem ok_is_count {f : Addr} {fd : FuncData} (T : Txt K mg) (F : Fun K "is_count" "is_count" s_is_count f fd) : FnOk P w K mg base CX0 1 f fd ["count"] sp_isc := by
  refine F.ok sc_is_count (fun vs H Q E h => by obtain ⟨cs, rfl, _⟩ := h; rfl) (fun cdv A outer s H vs Q E hr h => ?_)
  obtain ⟨cs, rfl, hz, q⟩ := h
  refine ⟨_, (pss_cons (ps_if (PW.pt (pw_or (pt_not (pt_val (pe_bm0 PySem.F.plainAttrs_str PySem.F.slot_str_isascii PySem.F.type_str_isascii mt_isascii (pv 0)))) (pw_or (pt_not (pt_val (pe_bm0 PySem.F.plainAttrs_str PySem.F.slot_str_isdigit PySem.F.type_str_isdigit mt_isdigit (pv 0)))) (pw_or1 (pt_cmpR op_gt (pe_callB call_len_str (by rfl) T.b_len PySem.boot_len (pa_cons (pv 0) pa_nil)) (pe_globX (by rfl) T.g_MOST_FIGURES) (nomark _)))))) (pss_one (ps_ret pe_bl)) pss_nil)
      (pss_one (ps_ret (pe_or (pe_cmpR op_eq (pv 0) pe_str (nomark _)) (pe_one (pe_not (pe_bm PySem.F.plainAttrs_str PySem.F.slot_str_startswith PySem.F.type_str_startswith mt_startswith (pv 0) (pa_cons pe_str pa_nil)))))))), ?_⟩
  refine q_when (b := !(Txt.isascii (tx cs) && Txt.isdigit (tx cs) && decide (cs.length ≤ 4))) (et_is (et_or (et_not (et_B (ev_bm0S (z := .bl (Txt.isascii (tx cs))) (ev_var rfl) (fun H1 _ Q q => ⟨_, rfl, rfl, trivial, q H1 (Ex.refl _)⟩)))) fun _ => et_or (et_not (et_B (ev_bm0S (z := .bl (Txt.isdigit (tx cs))) (ev_var rfl) (fun H1 _ Q q => ⟨_, rfl, rfl, trivial, q H1 (Ex.refl _)⟩)))) fun _ => et_test (ev_op (ev_lenZ (ev_var rfl) (by rw [tx_len]; exact sz_of hz)) ev_c rv_I0)) ?_) (fun hx H1 e1 => ?_) (fun hx H1 e1 => ?_)
  · rw [tx_len]
    have h1 : decide ((4 : Int) < (cs.length : Int)) = !decide (cs.length ≤ 4) := by
      rw [← decide_not]
      exact decide_eq_decide.mpr (by omega)
    rw [h1]
    cases Txt.isascii (tx cs) <;> cases Txt.isdigit (tx cs) <;> cases decide (cs.length ≤ 4) <;> rfl
  · refine s_ret ev_c fun H2 e2 => ?_
    have : isCt cs = false := by
      unfold isCt
      cases h : (Txt.isascii (tx cs) && Txt.isdigit (tx cs) && decide (cs.length ≤ 4)) with
      | false => rfl
      | true => rw [h] at hx; cases hx
    rw [this] at q
    exact q H2 (e1.trans e2)
  · refine s_ret (ev_is (ev_orV (a := decide (cs = [48])) (ev_is (ev_op (ev_var rfl) (ev_is ev_c (congrArg V.str strN0)) (rv_eq rfl)) ?_) (fun _ => ev_notV (a := Txt.startswith (tx cs) (tx [48])) (ev_bmS (ev_var rfl) (ea_cons (ev_is ev_c (congrArg V.str strN0)) ea_nil) (fun H1 _ Q q => ⟨_, _, rfl, rfl, q H1 (Ex.refl _)⟩)))) ?_) fun H2 e2 => q H2 (e1.trans e2)
    · exact congrArg V.bl (decide_eq_decide.mpr ⟨fun h => tx_inj (V.str.inj h), fun h => by rw [h]⟩)
    · unfold isCt
      cases h : (Txt.isascii (tx cs) && Txt.isdigit (tx cs) && decide (cs.length ≤ 4)) with
      | true => rfl
      | false => rw [h] at hx; cases hx
/-- what read tells, or how it refuses -/
def ReadTo (B : Bk) (line : List Nat) (o : Out) : Prop := (32 ∉ line ∧ o = .bad "BadLine") ∨ ∃ cs bs : List Nat, line = cs ++ 32 :: bs ∧ 32 ∉ cs ∧ ((isCt cs = false ∧ o = .bad "BadLine") ∨ (isCt cs = true ∧ ∃ m, PySem.intText? (tx cs) = some m ∧ UnpTo B bs m o))
def sp_read (mg : Str → Option Value) : Sp := fun vs H Q E => ∃ (b : Addr) (B : Bk) (line : List Nat) (o : Out), vs = [.ref b, .str (tx line)] ∧ BookAt mg H b B ∧ BookOk B ∧ line.length ≤ 90000 ∧ ReadTo B line o ∧ RetX mg o H Q E
theorem isCt_len {cs : List Nat} (h : isCt cs = true) : cs.length ≤ 4 := by
  unfold isCt at h
  simp only [Bool.and_eq_true, decide_eq_true_eq] at h
  exact h.1.2
theorem ok_read {f : Addr} {fd : FuncData} (T : Txt K mg) (F : Fun K "read" "read" s_read f fd) (C_unpack : CalX P w K mg base "unpack" ["book", "bits", "many"] 10 (sp_xunpack mg)) (C_is_count : Cal P w K mg base "is_count" ["count"] 1 sp_isc) : FnOk P w K mg base (L2.CX P w) 11 f fd ["book", "line"] (sp_read mg) := by
  refine F.okX sc_read (fun vs H Q E h => by obtain ⟨b, B, line, o, rfl, _⟩ := h; rfl) (fun cdv A outer s0 H vs Q E hr h => ?_)
  obtain ⟨b, B, line, o, rfl, hb, hB, hlen, hR, q⟩ := h
  refine ⟨_, (pss_cons (ps_asg (pe_partition (pv 1) pe_str) (pg_tup rfl (pgs_cons (pg_name (i := 2) sc_read.nd rfl (Or.inl rfl)) (pgs_cons (pg_name (i := 3) sc_read.nd rfl (Or.inl rfl)) (pgs_cons (pg_name (i := 4) sc_read.nd rfl (Or.inl rfl)) pgs_nil)))))
      (pss_cons (ps_if (PW.pt (pw_or (pt_cmpR op_eq (pv 3) pe_str (nomark _)) (pw_or1 (pt_not (pt_val (pe_cal C_is_count hr (by decide) (by rfl) (pa_cons (pv 2) pa_nil))))))) (pss_one (ps_err T.ex_BadLine rfl (takes_of rfl rfl rfl rfl) (by rfl))) pss_nil)
      (pss_one (ps_ret (pe_calX C_unpack (pass_on (E := E) rfl rfl rfl rfl) hr (by decide) (by rfl) (pa_cons (pv 0) (pa_cons (pv 4) (pa_cons (pe_callTy call_int_str (by rfl) T.b_int (by decide +kernel) (pa_cons (pv 2) pa_nil)) pa_nil)))))))), ?_⟩
  refine q_part (ev_var rfl) (ev_is ev_c (congrArg V.str strBl)) (by omega) fun p G e02 hG => ?_
  refine ⟨p, _, rfl, st_of hG, rfl, _, [_, _], rfl, _, [_], rfl, _, [], rfl, rfl, ?_⟩
  rcases hR with ⟨h1, ho⟩ | ⟨cs, bs, rfl, h1, hR⟩
  · rw [part_no h1]
    refine q_when (b := true) (et_or (a := true) (b := false) (et_is (et_test (ev_op (ev_var rfl) (ev_is ev_c str0) (rv_eq rfl))) rfl) (fun hx => nomatch hx)) (fun _ H3 e3 => ?_) (fun hx => nomatch hx)
    rw [ho] at q
    exact q.bad (e02.trans e3)
  · rw [part_in h1]
    rw [List.length_append, List.length_cons] at hlen
    refine q_when (b := !isCt cs) (et_or (a := false) (et_is (et_test (ev_op (ev_var rfl) (ev_is ev_c str0) (rv_eq rfl))) (decide_eq_false fun z => by have := tx_inj (V.str.inj z); cases this)) (fun _ => et_not (et_B (ev_cal (ea_cons (ev_var rfl) ea_nil) (spv fun H3 _ Q E q => ⟨cs, rfl, by omega, q⟩))))) (fun hx H3 e3 => ?_) (fun hx H3 e3 => ?_)
    · rcases hR with ⟨h2, ho⟩ | ⟨h2, _⟩
      · rw [ho] at q
        exact q.bad (e02.trans e3)
      · rw [h2] at hx; cases hx
    · rcases hR with ⟨h2, _⟩ | ⟨h2, m, hm, hU⟩
      · rw [h2] at hx; cases hx
      have := isCt_len h2
      refine s_retQ (er_cal (ea_cons (ev_var rfl) (ea_cons (ev_var rfl) (ea_cons (x := .int m) ?_ ea_nil))) fun H4 e4 => ?_)
      · exact ev_cb (ea_cons (ev_var rfl) ea_nil) fun H5 _ Q q => ⟨tx cs, m, rfl, hm, by rw [tx_len]; omega, q H5 (Ex.refl _)⟩
      · exact ⟨b, B, bs, m, o, rfl, hb.ex (e02.trans (e3.trans e4)), hB, by omega, hU, fun H5 e5 => q H5 ((e02.trans (e3.trans e4)).trans e5)⟩
def lineOf (B : Bk) (ts : List Nat) : List Nat := dg ts.length ++ 32 :: packF B (LS.start B) ts
def sp_written (mg : Str → Option Value) : Sp := fun vs H Q _ => ∃ (b : Addr) (B : Bk) (ts : List Nat), vs = [.ref b, .str (tx ts)] ∧ BookAt mg H b B ∧ BookOk B ∧ (∀ c ∈ ts, c ∈ B.ss) ∧ ts.length ≤ 2000 ∧ (packF B (LS.start B) ts).length ≤ 90000 ∧ RetV (.str (tx (lineOf B ts))) H Q
section
variable {te : TE} {ts : List TE} {acc : Str} {σ : L2.St} {H : Hp} {Q : Str → Hp → Prop}
theorem js_int {i : Int} (h : Ev te σ H (.int i)) (hz : i.natAbs.log2 < 1920) (hl : (acc ++ PySem.Str.ofString (toString i)).length ≤ sizeLine) (k : ∀ H1, Ex H H1 → tJs ts (acc ++ PySem.Str.ofString (toString i)) σ H1 Q) : tJs (tFmt te :: ts) acc σ H Q := by
  refine h H (Ex.refl _) _ ?_
  intro H1 e1
  exact Or.inr ⟨i, rfl, hz, _, rfl, hl, k H1 e1⟩
theorem js_str {y : Str} (h : Ev te σ H (.str y)) (hz : y.length ≤ sizeLine) (hl : (acc ++ y).length ≤ sizeLine) (k : ∀ H1, Ex H H1 → tJs ts (acc ++ y) σ H1 Q) : tJs (tFmt te :: ts) acc σ H Q := by
  refine h H (Ex.refl _) _ ?_
  intro H1 e1
  exact Or.inl ⟨y, rfl, hz, _, rfl, hl, k H1 e1⟩
theorem js_c {y : Str} (hl : (acc ++ y).length ≤ sizeLine) (k : tJs ts (acc ++ y) σ H Q) : tJs (tC (.str y) :: ts) acc σ H Q := ⟨y, rfl, hl, k⟩
end
theorem ok_written {f : Addr} {fd : FuncData} (T : Txt K mg) (F : Fun K "written" "written" s_written f fd) (C_pack : Cal P w K mg base "pack" ["book", "text"] 9 (sp_pack mg)) : FnOk P w K mg base CX0 10 f fd ["book", "text"] (sp_written mg) := by
  refine F.ok sc_written (fun vs H Q E h => by obtain ⟨b, B, ts, rfl, _⟩ := h; rfl) (fun cdv A outer s H vs Q E hr h => ?_)
  obtain ⟨b, B, ts, rfl, hb, hB, hm, hlen, hz, q⟩ := h
  refine ⟨_, (pss_one (ps_ret (pe_joined (.cons (pe_fmt (pe_callB call_len_str (by rfl) T.b_len PySem.boot_len (pa_cons (pv 1) pa_nil))) (.cons pe_str (.cons (pe_fmt (pe_cal C_pack hr (by decide) (by rfl) (pa_cons (pv 0) (pa_cons (pv 1) pa_nil)))) .nil)))))), ?_⟩
  have hl2 : (dg ts.length).length ≤ 2000 := dg_len ts.length (by omega)
  have e0 : Str.empty = tx [] := rfl
  refine s_retQ ?_
  refine js_int (i := (ts.length : Int)) (ev_is (ev_lenZ (ev_var rfl) (by rw [tx_len]; exact sz_of (by omega))) (by rw [tx_len])) (lg_of (by omega)) ?_ fun H1 e1 => js_c ?_ (js_str (ev_cal (ea_cons (ev_var rfl) (ea_cons (ev_var rfl) ea_nil)) (spv_pack (hb.ex e1) hB hm hlen)) (by rw [tx_len]; exact sz_of (by omega)) ?_ fun H2 e2 => ?_)
  · rw [dg_str, e0, tx_app, tx_len]
    exact sz_of (by simp; omega)
  · rw [dg_str, e0, strBl, tx_app, tx_app, tx_len]
    exact sz_of (by simp; omega)
  · rw [dg_str, e0, strBl, tx_app, tx_app, tx_app, tx_len]
    exact sz_of (by simp; omega)
  · rw [dg_str, e0, strBl, tx_app, tx_app, tx_app]
    have e : [] ++ dg ts.length ++ [32] ++ packF B (LS.start B) ts = lineOf B ts := by simp [lineOf]
    rw [e]
    exact q H2 (e1.trans e2)
theorem ev_int1b {ta : TE} {σ : L2.St} {H : Hp} {b : Bool} (ha : Ev ta σ H (.bl b)) : Ev (tCB (fun xs H Q => (∃ i, xs = [.int i] ∧ Q (.int i) H) ∨ ∃ k, xs = [.bl k] ∧ Q (.int (if k then 1 else 0)) H) (tCons ta tNil)) σ H (.int (if b then 1 else 0)) :=
  ev_cb (ea_cons ha ea_nil) fun H1 _ Q q => .inr ⟨b, rfl, q H1 (Ex.refl _)⟩
def fiveE : List Str := ["BadLine", "BadCount", "BadBit", "Loose", "Short"]
def sp_kinds (mg : Str → Option Value) : Value → Addr → Sp := fun cls a vs H Q _ => ∃ D : Str, D ∈ fiveE ∧ cls = .ref (cadr mg D) ∧ vs = [.ref a] ∧ RetV (.bl true) H Q
theorem kd_of (T : Txt K mg) {D : Str} (h : D ∈ fiveE) : Kinds K mg D := by
  unfold fiveE at h
  simp only [List.mem_cons, List.not_mem_nil, or_false] at h
  rcases h with rfl | rfl | rfl | rfl | rfl
  · exact T.kd_BadLine
  · exact T.kd_BadCount
  · exact T.kd_BadBit
  · exact T.kd_Loose
  · exact T.kd_Short
theorem ok_kinds {f : Addr} {fd : FuncData} (T : Txt K mg) (F : Fun K "_law_kinds" "_law_kinds" s_kinds f fd) : FnE P w K mg base 1 f fd ["_law_e"] (sp_kinds mg) := by
  obtain ⟨oc, od, kV, doc, pm, an, cdv, ct, osl, rfl, lk, hcd⟩ := F.ex
  refine fn_ofE lk hcd sc_kinds (fun cls a vs H Q E h => by obtain ⟨D, _, _, rfl, _⟩ := h; rfl) (fun A outer s0 H vs Q E p cls hz hf hr h => ?_)
  obtain ⟨D, hD, rfl, rfl, q⟩ := h
  have KD := kd_of T hD
  refine ⟨_, (pss_cons (ps_set (i := 1) sc_kinds.nd rfl (Or.inl rfl) (pe_op op_add (pe_op op_add (pe_callTy call_int1 (by rfl) T.b_int (by decide +kernel) (pa_cons (pe_callB (call_isP (a := p.1) (oe := p.2) (List.mem_singleton.mpr rfl) KD.ec hz hf) (by rfl) T.b_isinstance (by decide +kernel) (pa_cons (pv 0) (pa_cons (pe_glob (v := .ref (cadr mg "BadBook")) (by rfl) T.mc_BadBook rfl) pa_nil))) pa_nil)) (pe_callTy call_int1 (by rfl) T.b_int (by decide +kernel) (pa_cons (pe_callB (call_isP (a := p.1) (oe := p.2) (List.mem_singleton.mpr rfl) KD.ec hz hf) (by rfl) T.b_isinstance (by decide +kernel) (pa_cons (pv 0) (pa_cons (pe_glob (v := .ref (cadr mg "BadShares")) (by rfl) T.mc_BadShares rfl) pa_nil))) pa_nil))) (pe_callTy call_int1 (by rfl) T.b_int (by decide +kernel) (pa_cons (pe_callB (call_isP (a := p.1) (oe := p.2) (List.mem_singleton.mpr rfl) KD.ec hz hf) (by rfl) T.b_isinstance (by decide +kernel) (pa_cons (pv 0) (pa_cons (pe_glob (v := .ref (cadr mg "BadSign")) (by rfl) T.mc_BadSign rfl) pa_nil))) pa_nil))))
      (pss_cons (ps_set (i := 1) sc_kinds.nd rfl (Or.inl rfl) (pe_op op_add (pe_op op_add (pe_op op_add (pv 1) (pe_callTy call_int1 (by rfl) T.b_int (by decide +kernel) (pa_cons (pe_callB (call_isP (a := p.1) (oe := p.2) (List.mem_singleton.mpr rfl) KD.ec hz hf) (by rfl) T.b_isinstance (by decide +kernel) (pa_cons (pv 0) (pa_cons (pe_glob (v := .ref (cadr mg "BadCount")) (by rfl) T.mc_BadCount rfl) pa_nil))) pa_nil))) (pe_callTy call_int1 (by rfl) T.b_int (by decide +kernel) (pa_cons (pe_callB (call_isP (a := p.1) (oe := p.2) (List.mem_singleton.mpr rfl) KD.ec hz hf) (by rfl) T.b_isinstance (by decide +kernel) (pa_cons (pv 0) (pa_cons (pe_glob (v := .ref (cadr mg "BadBit")) (by rfl) T.mc_BadBit rfl) pa_nil))) pa_nil))) (pe_callTy call_int1 (by rfl) T.b_int (by decide +kernel) (pa_cons (pe_callB (call_isP (a := p.1) (oe := p.2) (List.mem_singleton.mpr rfl) KD.ec hz hf) (by rfl) T.b_isinstance (by decide +kernel) (pa_cons (pv 0) (pa_cons (pe_glob (v := .ref (cadr mg "Loose")) (by rfl) T.mc_Loose rfl) pa_nil))) pa_nil))))
      (pss_cons (ps_set (i := 1) sc_kinds.nd rfl (Or.inl rfl) (pe_op op_add (pe_op op_add (pv 1) (pe_callTy call_int1 (by rfl) T.b_int (by decide +kernel) (pa_cons (pe_callB (call_isP (a := p.1) (oe := p.2) (List.mem_singleton.mpr rfl) KD.ec hz hf) (by rfl) T.b_isinstance (by decide +kernel) (pa_cons (pv 0) (pa_cons (pe_glob (v := .ref (cadr mg "Short")) (by rfl) T.mc_Short rfl) pa_nil))) pa_nil))) (pe_callTy call_int1 (by rfl) T.b_int (by decide +kernel) (pa_cons (pe_callB (call_isP (a := p.1) (oe := p.2) (List.mem_singleton.mpr rfl) KD.ec hz hf) (by rfl) T.b_isinstance (by decide +kernel) (pa_cons (pv 0) (pa_cons (pe_glob (v := .ref (cadr mg "BadLine")) (by rfl) T.mc_BadLine rfl) pa_nil))) pa_nil))))
      (pss_one (ps_ret (pe_and (pe_cmpR op_eq (pv 1) pe_int (nomark _)) (pe_and (pe_callB (call_isP (a := p.1) (oe := p.2) (List.mem_singleton.mpr rfl) KD.ec hz hf) (by rfl) T.b_isinstance (by decide +kernel) (pa_cons (pv 0) (pa_cons (pe_glob (v := .ref (cadr mg "PackError")) (by rfl) T.mc_PackError rfl) pa_nil))) (pe_one (pe_callB (call_isP (a := p.1) (oe := p.2) (List.mem_singleton.mpr rfl) KD.ec hz hf) (by rfl) T.b_isinstance (by decide +kernel) (pa_cons (pv 0) (pa_cons (pe_bltn (v := .ty "ValueError") (by rfl) T.b_ValueError (by decide +kernel) rfl) pa_nil))))))))))), ?_⟩
  refine q_asg (ev_op (ev_op (ev_int1b (ev_isP (ev_var rfl) ev_c (kd_is KD.self KD.k1))) (ev_int1b (ev_isP (ev_var rfl) ev_c (kd_is KD.self KD.k2))) rv_I0) (ev_int1b (ev_isP (ev_var rfl) ev_c (kd_is KD.self KD.k3))) rv_I0) fun H1 e1 => ?_
  refine q_asg (ev_op (ev_op (ev_op (ev_var rfl) (ev_int1b (ev_isP (ev_var rfl) ev_c (kd_is KD.self KD.k4))) rv_I0) (ev_int1b (ev_isP (ev_var rfl) ev_c (kd_is KD.self KD.k5))) rv_I0) (ev_int1b (ev_isP (ev_var rfl) ev_c (kd_is KD.self KD.k6))) rv_I0) fun H2 e2 => ?_
  refine q_asg (ev_op (ev_op (ev_var rfl) (ev_int1b (ev_isP (ev_var rfl) ev_c (kd_is KD.self KD.k7))) rv_I0) (ev_int1b (ev_isP (ev_var rfl) ev_c (kd_is KD.self KD.k8))) rv_I0) fun H3 e3 => ?_
  refine s_ret (ev_is (ev_andV (a := true) (ev_is (ev_op (ev_var rfl) ev_c (rv_eq rfl)) ?_) fun _ => ev_andV (ev_isP (ev_var rfl) ev_c KD.pe) fun _ => ev_isPt (ev_var rfl) ev_c KD.ve) rfl) fun H4 e4 => q H4 (((e1.trans e2).trans e3).trans e4)
  unfold fiveE at hD
  simp only [List.mem_cons, List.not_mem_nil, or_false] at hD
  rcases hD with rfl | rfl | rfl | rfl | rfl <;> rfl
def toldW (D : Str) : Str := if D = "BadLine" then "lineTrue" else if D = "BadCount" then "countTrue" else if D = "BadBit" then "bitTrue" else if D = "Loose" then "looseTrue" else "shortTrue"
def sp_told (mg : Str → Option Value) : Sp := fun vs H Q _ => ∃ (b : Addr) (B : Bk) (line : List Nat) (D : Str), vs = [.ref b, .str (tx line)] ∧ BookAt mg H b B ∧ BookOk B ∧ line.length ≤ 90000 ∧ D ∈ fiveE ∧ ReadTo B line (.bad D) ∧ RetV (.str (toldW D)) H Q
section
variable {mg : Str → Option Value} {K : PySem.W.Frag} {σ : L2.St} {H H0 : Hp} {D : Str} {Dn : Ends} {a : Addr} {Q : VK} {y : Str} {i j : Nat}
/-- one clause's suite -/
theorem told_suite {tf : TE} (hD : D ∈ fiveE) (hv : Ev tf (σ.set 3 (some (.ref a))) H (.ref a)) (hy : y.length ≤ 100) (k : ∀ H1, Ex H H1 → Dn.nx (((σ.set 3 (some (.ref a))).set 2 (some (.str (y ++ "True")))).set 3 none) H1) :
    tAsg (tOp (fun x y H Q => ∃ i j, x = .str i ∧ y = .str j ∧ i.length + j.length ≤ sizeLine ∧ Q (.str (i ++ j)) H) (tC (.str y)) (tCB (fun xs H Q => ∃ b, xs = [.bl b] ∧ Q (.str (if b then "True" else "False")) H) (tCons (tCallE (sp_kinds mg) (.ref (cadr mg D)) none a (tCons tf tNil)) tNil))) (gName 2)
      { nx := fun σ' H' => Dn.nx (σ'.set 3 none) H', rt := Dn.rt, bk := fun σ' H' => Dn.bk (σ'.set 3 none) H', ct := fun σ' H' => Dn.ct (σ'.set 3 none) H' } (σ.set 3 (some (.ref a))) H :=
  s_asg (ev_op ev_c (ev_cb (z := .str "True") (ea_cons (ev_calE (z := .bl true) (ea_cons hv ea_nil) fun H1 _ Q q => ⟨D, hD, rfl, rfl, q⟩) ea_nil) fun H1 _ Q q => ⟨true, rfl, q H1 (Ex.refl _)⟩) (rv_addS (by
    show y.length + 4 ≤ _
    exact Nat.le_trans (Nat.add_le_add_right hy 4) (sz_of (by decide))))) k
end
theorem ok_told {f : Addr} {fd : FuncData} (T : Txt K mg) (F : Fun K "_law_told" "_law_told" s_told f fd) (C_read : CalX P w K mg base "read" ["book", "line"] 11 (sp_read mg)) (C__law_kinds : CalE P w K mg base "_law_kinds" ["_law_e"] 1 (sp_kinds mg)) : FnOk P w K mg base CX0 12 f fd ["_law_book", "_law_line"] (sp_told mg) := by
  refine F.ok sc_told (fun vs H Q E h => by obtain ⟨b, B, line, D, rfl, _⟩ := h; rfl) (fun cdv A outer s0 H vs Q E hr h => ?_)
  obtain ⟨b, B, line, D, rfl, hb, hB, hlen, hD, hR, q⟩ := h
  refine ⟨_, (pss_cons (ps_set (i := 2) sc_told.nd rfl (Or.inl rfl) pe_str)
      (pss_cons (ps_try_manyAs (i := 3) rfl rfl sc_told.nd rfl rfl takes0 (fun W pn xe tk _ => (pss_one (ps_expr (pe_calS C_read (fun σ => passAt tk σ) hr (by decide) (by rfl) (pa_cons (pv 0) (pa_cons (pv 1) pa_nil))))))
      (.cons ⟨rfl, by decide, .inl T.mc_BadLine⟩ (fun a oe cls d pn hz hf => (pss_one (ps_set (i := 2) sc_told.nd rfl (Or.inl rfl) (pe_op op_add_str pe_str (pe_callTy call_str_bl (by rfl) T.b_str (by decide +kernel) (pa_cons (pe_calE (k' := 11) C__law_kinds ⟨hr.dp, hr.un⟩ (by decide) hz hf List.mem_cons_self (by rfl) (pa_cons (pv 3) pa_nil)) pa_nil))))))
      (.cons ⟨rfl, by decide, .inl T.mc_BadCount⟩ (fun a oe cls d pn hz hf => (pss_one (ps_set (i := 2) sc_told.nd rfl (Or.inl rfl) (pe_op op_add_str pe_str (pe_callTy call_str_bl (by rfl) T.b_str (by decide +kernel) (pa_cons (pe_calE (k' := 11) C__law_kinds ⟨hr.dp, hr.un⟩ (by decide) hz hf List.mem_cons_self (by rfl) (pa_cons (pv 3) pa_nil)) pa_nil))))))
      (.cons ⟨rfl, by decide, .inl T.mc_BadBit⟩ (fun a oe cls d pn hz hf => (pss_one (ps_set (i := 2) sc_told.nd rfl (Or.inl rfl) (pe_op op_add_str pe_str (pe_callTy call_str_bl (by rfl) T.b_str (by decide +kernel) (pa_cons (pe_calE (k' := 11) C__law_kinds ⟨hr.dp, hr.un⟩ (by decide) hz hf List.mem_cons_self (by rfl) (pa_cons (pv 3) pa_nil)) pa_nil))))))
      (.cons ⟨rfl, by decide, .inl T.mc_Loose⟩ (fun a oe cls d pn hz hf => (pss_one (ps_set (i := 2) sc_told.nd rfl (Or.inl rfl) (pe_op op_add_str pe_str (pe_callTy call_str_bl (by rfl) T.b_str (by decide +kernel) (pa_cons (pe_calE (k' := 11) C__law_kinds ⟨hr.dp, hr.un⟩ (by decide) hz hf List.mem_cons_self (by rfl) (pa_cons (pv 3) pa_nil)) pa_nil))))))
      (.cons ⟨rfl, by decide, .inl T.mc_Short⟩ (fun a oe cls d pn hz hf => (pss_one (ps_set (i := 2) sc_told.nd rfl (Or.inl rfl) (pe_op op_add_str pe_str (pe_callTy call_str_bl (by rfl) T.b_str (by decide +kernel) (pa_cons (pe_calE (k' := 11) C__law_kinds ⟨hr.dp, hr.un⟩ (by decide) hz hf List.mem_cons_self (by rfl) (pa_cons (pv 3) pa_nil)) pa_nil))))))
      .nil))))))
      (pss_one (ps_ret (pv 2))))), ?_⟩
  refine q_asg ev_c fun H1 e1 => ?_
  refine s_dropQ ((ea_cons (ev_var rfl) (ea_cons (ev_var rfl) ea_nil)) H1 (Ex.refl _) _ fun H2 e2 => ⟨b, B, line, .bad D, rfl, hb.ex (e1.trans e2), hB, hlen, hR, fun H3 e3 => ?_⟩)
  have e13 := (e1.trans e2).trans e3
  have hD' := hD
  unfold fiveE at hD
  simp only [List.mem_cons, List.not_mem_nil, or_false] at hD
  rcases hD with rfl | rfl | rfl | rfl | rfl
  · exact clause_yes T.xm_BadLine_BadLine fun a ha => told_suite hD' (ev_var rfl) (by decide) fun H4 e4 => s_ret (ev_var rfl) fun H5 e5 => q H5 (e13.trans (e4.trans e5))
  · exact clause_no T.xm_BadCount_BadLine (clause_yes T.xm_BadCount_BadCount fun a ha => told_suite hD' (ev_var rfl) (by decide) fun H4 e4 => s_ret (ev_var rfl) fun H5 e5 => q H5 (e13.trans (e4.trans e5)))
  · exact clause_no T.xm_BadBit_BadLine (clause_no T.xm_BadBit_BadCount (clause_yes T.xm_BadBit_BadBit fun a ha => told_suite hD' (ev_var rfl) (by decide) fun H4 e4 => s_ret (ev_var rfl) fun H5 e5 => q H5 (e13.trans (e4.trans e5))))
  · exact clause_no T.xm_Loose_BadLine (clause_no T.xm_Loose_BadCount (clause_no T.xm_Loose_BadBit (clause_yes T.xm_Loose_Loose fun a ha => told_suite hD' (ev_var rfl) (by decide) fun H4 e4 => s_ret (ev_var rfl) fun H5 e5 => q H5 (e13.trans (e4.trans e5)))))
  · exact clause_no T.xm_Short_BadLine (clause_no T.xm_Short_BadCount (clause_no T.xm_Short_BadBit (clause_no T.xm_Short_Loose (clause_yes T.xm_Short_Short fun a ha => told_suite hD' (ev_var rfl) (by decide) fun H4 e4 => s_ret (ev_var rfl) fun H5 e5 => q H5 (e13.trans (e4.trans e5))))))
/-- [..][i], the list written there -/
theorem ev_ixD {σ : L2.St} {H : Hp} {ta tb : TE} {xs : List V} {v : V} {i : Int} (ha : EvL ta σ H xs) (hb : ∀ H1, Ex H H1 → Ev tb σ H1 (.int i)) (hat : atI xs i = some v) : Ev (tOp (rIxL K) ta tb) σ H v :=
  ev_opL1 ha hb fun p H1 hp _ => rv_ixL (sq_of hp) hat
def sgs : List Nat := [43, 45, 97, 95, 46, 120, 9, 10]
/-- a count that is none -/
def badOf (c : Int) (n : Nat) : List Nat :=
  if c % 8 = 0 then [] else if c % 8 = 1 then 48 :: dg n else
  if c % 8 = 2 then (dg n).take (c / 8 % (((dg n).length : Int) + 1)).toNat ++ sgs.getD (c / 64 % 8).toNat 0 :: (dg n).drop (c / 8 % (((dg n).length : Int) + 1)).toNat else
  if c % 8 = 3 then [49, 48, 48, 48, 48] else if c % 8 = 4 then [48, 48] else if c % 8 = 5 then List.replicate (5 + c / 64 % 30).toNat 57 else if c % 8 = 6 then 43 :: dg n else [48, 48, 48, 48]
theorem sgs_no : ∀ k : Fin 8, Unicode.isDigit (sgs.getD k 0) = false ∧ sgs.getD k 0 ≠ 32 := by decide +kernel
theorem badOf_ok (c : Int) {n : Nat} (h : n < 10000) : isCt (badOf c n) = false ∧ 32 ∉ badOf c n ∧ (badOf c n).length ≤ 100 := by
  have hl := dg_len4 h
  unfold badOf
  split
  · exact ⟨isCt_nil, by simp, by simp⟩
  split
  · refine ⟨isCt_lead (dg_ne n), ?_, by simp; omega⟩
    simp [dg_no32]
  split
  · have g1 := Int.emod_nonneg (c / 64) (show (8 : Int) ≠ 0 by decide)
    have g2 := Int.emod_lt_of_pos (c / 64) (show (0 : Int) < 8 by decide)
    obtain ⟨k1, k2⟩ := sgs_no ⟨(c / 64 % 8).toNat, by omega⟩
    refine ⟨isCt_sign (c := sgs.getD (c / 64 % 8).toNat 0) (by simp) k1, ?_, ?_⟩
    · intro hm
      rcases List.mem_append.mp hm with hm | hm
      · exact dg_no32 n (List.mem_of_mem_take hm)
      · rcases List.mem_cons.mp hm with hm | hm
        · exact k2 hm.symm
        · exact dg_no32 n (List.mem_of_mem_drop hm)
    · rw [List.length_append, List.length_cons, List.length_take, List.length_drop]
      omega
  split
  · exact ⟨isCt_long (by decide), by decide, by decide⟩
  split
  · exact ⟨isCt_lead (by simp), by decide, by decide⟩
  split
  · have g1 := Int.emod_nonneg (c / 64) (show (30 : Int) ≠ 0 by decide)
    have g2 := Int.emod_lt_of_pos (c / 64) (show (0 : Int) < 30 by decide)
    refine ⟨isCt_long (by rw [List.length_replicate]; omega), fun hm => ?_, by rw [List.length_replicate]; omega⟩
    have := List.eq_of_mem_replicate hm
    omega
  split
  · refine ⟨isCt_sign (c := 43) (by simp) (by decide +kernel), ?_, by simp; omega⟩
    simp [dg_no32]
  · exact ⟨isCt_lead (by simp), by decide, by decide⟩
def sp_bad : Sp := fun vs H Q _ => ∃ (c : Int) (n : Nat), vs = [.int c, .int (n : Int)] ∧ n < 10000 ∧ RetV (.str (tx (badOf c n))) H Q
theorem sgs_at {i : Int} (h0 : 0 ≤ i) (h1 : i < 8) : atI ([.str "+", .str "-", .str "a", .str "_", .str ".", .str "x", .str "\t", .str "\n"] : List V) i = some (.str (tx [sgs.getD i.toNat 0])) := by
  obtain ⟨k, rfl⟩ : ∃ k : Nat, i = (k : Int) := ⟨i.toNat, by omega⟩
  refine atI_nat ?_
  rw [Int.toNat_natCast]
  match k, h1 with
  | 0, _ => exact congrArg (fun s => some (V.str s)) (by decide +kernel)
  | 1, _ => exact congrArg (fun s => some (V.str s)) (by decide +kernel)
  | 2, _ => exact congrArg (fun s => some (V.str s)) (by decide +kernel)
  | 3, _ => exact congrArg (fun s => some (V.str s)) (by decide +kernel)
  | 4, _ => exact congrArg (fun s => some (V.str s)) (by decide +kernel)
  | 5, _ => exact congrArg (fun s => some (V.str s)) (by decide +kernel)
  | 6, _ => exact congrArg (fun s => some (V.str s)) (by decide +kernel)
  | 7, _ => exact congrArg (fun s => some (V.str s)) (by decide +kernel)
  | k + 8, h => omega
theorem str_k {s : String} {l : List Nat} (h : PySem.Str.ofString s = tx l) : (V.str (PySem.Str.ofString s)) = .str (tx l) := congrArg V.str h
theorem ok_bad_count {f : Addr} {fd : FuncData} (T : Txt K mg) (F : Fun K "_law_bad_count" "_law_bad_count" s_bad_count f fd) : FnOk P w K mg base CX0 1 f fd ["_law_cell", "_law_many"] sp_bad := by
  refine F.ok sc_bad_count (fun vs H Q E h => by obtain ⟨c, n, rfl, _⟩ := h; rfl) (fun cdv A outer s H vs Q E hr h => ?_)
  obtain ⟨c, n, rfl, hn, q⟩ := h
  refine ⟨_, (pss_cons (ps_set (i := 2) sc_bad_count.nd rfl (Or.inl rfl) (pe_callTy call_str_int (by rfl) T.b_str (by decide +kernel) (pa_cons (pv 1) pa_nil)))
      (pss_cons (ps_set (i := 3) sc_bad_count.nd rfl (Or.inl rfl) (pe_op op_mod (pe_op op_fdiv (pv 0) pe_int) (pe_op op_add (pe_callB call_len_str (by rfl) T.b_len PySem.boot_len (pa_cons (pv 2) pa_nil)) pe_int)))
      (pss_cons (ps_set (i := 4) sc_bad_count.nd rfl (Or.inl rfl) (pe_op op_mod (pv 0) pe_int))
      (pss_cons (ps_if (pt_cmpR op_eq (pv 4) pe_int (nomark _)) (pss_one (ps_ret pe_str)) pss_nil)
      (pss_cons (ps_if (pt_cmpR op_eq (pv 4) pe_int (nomark _)) (pss_one (ps_ret (pe_op op_add_str pe_str (pv 2)))) pss_nil)
      (pss_cons (ps_if (pt_cmpR op_eq (pv 4) pe_int (nomark _)) (pss_one (ps_ret (pe_op op_add_str (pe_op op_add_str (pe_slice sl_str (pv 2) po_none (po_some (pv 3))) (pe_ix ix_list (pe_lst (pa_cons pe_str (pa_cons pe_str (pa_cons pe_str (pa_cons pe_str (pa_cons pe_str (pa_cons pe_str (pa_cons pe_str (pa_cons pe_str pa_nil))))))))) (pe_op op_mod (pe_op op_fdiv (pv 0) pe_int) pe_int) (fun _ _ => rfl))) (pe_slice sl_str (pv 2) (po_some (pv 3)) po_none)))) pss_nil)
      (pss_cons (ps_if (pt_cmpR op_eq (pv 4) pe_int (nomark _)) (pss_one (ps_ret (pe_op op_add_str pe_str (pe_op op_repS pe_str pe_int)))) pss_nil)
      (pss_cons (ps_if (pt_cmpR op_eq (pv 4) pe_int (nomark _)) (pss_one (ps_ret pe_str)) pss_nil)
      (pss_cons (ps_if (pt_cmpR op_eq (pv 4) pe_int (nomark _)) (pss_one (ps_ret (pe_op op_repS pe_str (pe_op op_add pe_int (pe_op op_mod (pe_op op_fdiv (pv 0) pe_int) pe_int))))) pss_nil)
      (pss_cons (ps_if (pt_cmpR op_eq (pv 4) pe_int (nomark _)) (pss_one (ps_ret (pe_op op_add_str pe_str (pv 2)))) pss_nil)
      (pss_one (ps_ret pe_str)))))))))))), ?_⟩
  have hl := dg_len4 hn
  have lg : ((n : Int)).natAbs.log2 < 1920 := lg_of (by omega)
  refine q_asg (v := .str (tx (dg n))) (ev_cb (ea_cons (ev_var rfl) ea_nil) fun H1 _ Q q => ⟨_, rfl, lg, by rw [dg_str]; exact q H1 (Ex.refl _)⟩) fun H1 e1 => ?_
  refine q_asg (ev_op (ev_op (ev_var rfl) ev_c (rv_fdiv (by decide))) (ev_op (ev_is (ev_lenZ (ev_var rfl) (by rw [tx_len]; exact sz_of (by omega))) (by rw [tx_len])) ev_c rv_I0) (rv_mod (by omega))) fun H2 e2 => ?_
  refine q_asg (ev_op (ev_var rfl) ev_c (rv_mod (by decide))) fun H3 e3 => ?_
  have e123 := (e1.trans e2).trans e3
  refine q_when (b := decide (c % 8 = 0)) (et_is (et_test (ev_op (ev_var rfl) ev_c (rv_eq rfl))) (decide_eq_decide.mpr ⟨fun z => V.int.inj z, fun z => by rw [z]⟩)) (fun hx H4 e4 => ?_) (fun hx H4 f0 => ?_)
  · have hx := of_decide_eq_true hx
    unfold badOf at q; rw [if_pos hx] at q
    refine s_ret (ev_is ev_c (str_k (by decide +kernel))) fun H5 e5 => q H5 ((e123.trans e4).trans e5)
  have n0 := of_decide_eq_false hx
  refine q_when (b := decide (c % 8 = 1)) (et_is (et_test (ev_op (ev_var rfl) ev_c (rv_eq rfl))) (decide_eq_decide.mpr ⟨fun z => V.int.inj z, fun z => by rw [z]⟩)) (fun hx H4 e4 => ?_) (fun hx H4 f1 => ?_)
  · have hx := of_decide_eq_true hx
    unfold badOf at q; rw [if_neg n0, if_pos hx] at q
    refine s_ret (ev_is (ev_op (ev_is ev_c (str_k (l := [48]) (by decide +kernel))) (ev_var rfl) (rv_addS (by rw [tx_len, tx_len]; exact sz_of (by simp; omega)))) (by rw [tx_app]; rfl)) fun H5 e5 => q H5 (((e123.trans f0).trans e4).trans e5)
  have n1 := of_decide_eq_false hx
  refine q_when (b := decide (c % 8 = 2)) (et_is (et_test (ev_op (ev_var rfl) ev_c (rv_eq rfl))) (decide_eq_decide.mpr ⟨fun z => V.int.inj z, fun z => by rw [z]⟩)) (fun hx H4 e4 => ?_) (fun hx H4 f2 => ?_)
  · have hx := of_decide_eq_true hx
    unfold badOf at q; rw [if_neg n0, if_neg n1, if_pos hx] at q
    have g1 := Int.emod_nonneg (c / 64) (show (8 : Int) ≠ 0 by decide)
    have g2 := Int.emod_lt_of_pos (c / 64) (show (0 : Int) < 8 by decide)
    have g3 := Int.emod_nonneg (c / 8) (show ((dg n).length : Int) + 1 ≠ 0 by omega)
    have g4 := Int.emod_lt_of_pos (c / 8) (show (0 : Int) < ((dg n).length : Int) + 1 by omega)
    have ea : c / 8 % (((dg n).length : Int) + 1) = (((c / 8 % (((dg n).length : Int) + 1)).toNat : Nat) : Int) := by omega
    generalize (c / 8 % (((dg n).length : Int) + 1)).toNat = j at ea q
    refine s_ret (ev_is (ev_op (ev_op (ev_toS (n := j) (ev_var rfl) (ev_is (ev_var rfl) (congrArg V.int ea)) (by omega)) (ev_ixD (el_lst (ea_cons ev_c (ea_cons ev_c (ea_cons ev_c (ea_cons ev_c (ea_cons ev_c (ea_cons ev_c (ea_cons ev_c (ea_cons ev_c ea_nil)))))))) (by show 8 ≤ 100000; decide)) (fun _ _ => ev_op (ev_op (ev_var rfl) ev_c (rv_fdiv (by decide))) ev_c (rv_mod (by decide))) (sgs_at g1 g2)) (rv_addS (by rw [tx_len, tx_len]; exact sz_of (by simp; omega)))) (ev_fromS (i := j) (ev_var rfl) (ev_is (ev_var rfl) (congrArg V.int ea)) (by omega)) (rv_addS (by rw [tx_app, tx_len, tx_len]; exact sz_of (by simp; omega)))) (by rw [tx_app, tx_app, List.append_assoc]; rfl)) fun H5 e5 => q H5 ((((e123.trans f0).trans f1).trans e4).trans e5)
  have n2 := of_decide_eq_false hx
  refine q_when (b := decide (c % 8 = 3)) (et_is (et_test (ev_op (ev_var rfl) ev_c (rv_eq rfl))) (decide_eq_decide.mpr ⟨fun z => V.int.inj z, fun z => by rw [z]⟩)) (fun hx H4 e4 => ?_) (fun hx H4 f3 => ?_)
  · have hx := of_decide_eq_true hx
    unfold badOf at q; rw [if_neg n0, if_neg n1, if_neg n2, if_pos hx] at q
    refine s_ret (ev_is (ev_op (ev_is ev_c (str_k (l := [49]) (by decide +kernel))) (ev_repS (c := 48) (n := 4) (ev_is ev_c (str_k (l := [48]) (by decide +kernel))) ev_c (by decide)) (rv_addS (by rw [tx_len, tx_len]; exact sz_of (by decide)))) (by rw [tx_app]; rfl)) fun H5 e5 => q H5 (((((e123.trans f0).trans f1).trans f2).trans e4).trans e5)
  have n3 := of_decide_eq_false hx
  refine q_when (b := decide (c % 8 = 4)) (et_is (et_test (ev_op (ev_var rfl) ev_c (rv_eq rfl))) (decide_eq_decide.mpr ⟨fun z => V.int.inj z, fun z => by rw [z]⟩)) (fun hx H4 e4 => ?_) (fun hx H4 f4 => ?_)
  · have hx := of_decide_eq_true hx
    unfold badOf at q; rw [if_neg n0, if_neg n1, if_neg n2, if_neg n3, if_pos hx] at q
    refine s_ret (ev_is ev_c (str_k (by decide +kernel))) fun H5 e5 => q H5 ((((((e123.trans f0).trans f1).trans f2).trans f3).trans e4).trans e5)
  have n4 := of_decide_eq_false hx
  refine q_when (b := decide (c % 8 = 5)) (et_is (et_test (ev_op (ev_var rfl) ev_c (rv_eq rfl))) (decide_eq_decide.mpr ⟨fun z => V.int.inj z, fun z => by rw [z]⟩)) (fun hx H4 e4 => ?_) (fun hx H4 f5 => ?_)
  · have hx := of_decide_eq_true hx
    unfold badOf at q; rw [if_neg n0, if_neg n1, if_neg n2, if_neg n3, if_neg n4, if_pos hx] at q
    have g1 := Int.emod_nonneg (c / 64) (show (30 : Int) ≠ 0 by decide)
    have g2 := Int.emod_lt_of_pos (c / 64) (show (0 : Int) < 30 by decide)
    refine s_ret (ev_repS (c := 57) (n := (5 + c / 64 % 30).toNat) (ev_is ev_c (str_k (l := [57]) (by decide +kernel))) (ev_is (ev_op ev_c (ev_op (ev_op (ev_var rfl) ev_c (rv_fdiv (by decide))) ev_c (rv_mod (by decide))) rv_I0) (congrArg V.int (by omega))) (by omega)) fun H5 e5 => q H5 (((((((e123.trans f0).trans f1).trans f2).trans f3).trans f4).trans e4).trans e5)
  have n5 := of_decide_eq_false hx
  refine q_when (b := decide (c % 8 = 6)) (et_is (et_test (ev_op (ev_var rfl) ev_c (rv_eq rfl))) (decide_eq_decide.mpr ⟨fun z => V.int.inj z, fun z => by rw [z]⟩)) (fun hx H4 e4 => ?_) (fun hx H4 f6 => ?_)
  · have hx := of_decide_eq_true hx
    unfold badOf at q; rw [if_neg n0, if_neg n1, if_neg n2, if_neg n3, if_neg n4, if_neg n5, if_pos hx] at q
    refine s_ret (ev_is (ev_op (ev_is ev_c (str_k (l := [43]) (by decide +kernel))) (ev_var rfl) (rv_addS (by rw [tx_len, tx_len]; exact sz_of (by simp; omega)))) (by rw [tx_app]; rfl)) fun H5 e5 => q H5 ((((((((e123.trans f0).trans f1).trans f2).trans f3).trans f4).trans f5).trans e4).trans e5)
  have n6 := of_decide_eq_false hx
  unfold badOf at q; rw [if_neg n0, if_neg n1, if_neg n2, if_neg n3, if_neg n4, if_neg n5, if_neg n6] at q
  exact s_ret (ev_is ev_c (str_k (by decide +kernel))) fun H5 e5 => q H5 ((((((((e123.trans f0).trans f1).trans f2).trans f3).trans f4).trans f5).trans f6).trans e5)
def cellsOf (ns : List Int) (f n : Nat) : List Int := (List.range n).map fun k : Nat => cel ns (f + 1 + k) + (k : Int) * (cel ns f % 5)
theorem cells_at {ns : List Int} {f n i : Nat} {y : Int} (h : (cellsOf ns f n)[i]? = some y) : y = cel ns (f + 1 + i) + (i : Int) * (cel ns f % 5) ∧ i < n := by
  unfold cellsOf at h
  rw [List.getElem?_map] at h
  cases hz : (List.range n)[i]? with
  | none => rw [hz] at h; cases h
  | some z =>
    rw [hz] at h
    obtain ⟨h1, h2⟩ := List.getElem?_eq_some_iff.mp hz
    rw [List.getElem_range] at h2
    rw [List.length_range] at h1
    subst h2
    exact ⟨(Option.some.inj h).symm, h1⟩
theorem sign_atI {ss : List Nat} {i : Int} (h1 : 0 ≤ i) (h2 : i < ss.length) : atI (tx ss).cps.toList i = some (ss.getD i.toNat 0) := by
  rw [tx_cps]
  have e : i = ((i.toNat : Nat) : Int) := by omega
  rw [e]
  unfold atI ixN
  have hlt : i.toNat < ss.length := by omega
  rw [if_pos (by omega), if_pos (by omega)]
  show ss[((i.toNat : Nat) : Int).toNat]? = _
  rw [show ((i.toNat : Nat) : Int).toNat = i.toNat by omega, List.getElem?_eq_getElem hlt, List.getD_eq_getElem?_getD, List.getElem?_eq_getElem hlt]
  rfl
def sp_textBy (K : PySem.W.Frag) : Sp := fun vs H Q _ => ∃ (a : Addr) (ns : List Int) (f n : Nat) (ss : List Nat), vs = [.ref a, .int (f : Int), .str (tx ss), .int (n : Int)] ∧ SqL K H a (ns.map V.int) ∧ n ≤ 1000 ∧ 1 ≤ ss.length ∧ ss.length ≤ 100 ∧ RetV (.str (tx (textOf ns f ss n))) H Q
theorem ok_text_by {f : Addr} {fd : FuncData} (T : Txt K mg) (F : Fun K "_law_text_by" "_law_text_by" s_text_by f fd) (C__law_cell_at : Cal P w K mg base "_law_cell_at" ["_law_script", "_law_k"] 1 (sp_cell K)) : FnOk P w K mg base CX0 2 f fd ["_law_script", "_law_first", "_law_signs", "_law_size"] (sp_textBy K) := by
  refine F.ok sc_text_by (fun vs H Q E h => by obtain ⟨a, ns, f, n, ss, rfl, _⟩ := h; rfl) (fun cdv A outer s H vs Q E hr h => ?_)
  obtain ⟨a, ns, f, n, ss, rfl, hs, hn, hs1, hs2, q⟩ := h
  refine ⟨_, (pss_cons (ps_set (i := 4) sc_text_by.nd rfl (Or.inr rfl) (pe_op op_mod (pe_cal C__law_cell_at hr (by decide) (by rfl) (pa_cons (pv 0) (pa_cons (pv 1) pa_nil))) pe_int))
      (pss_cons (ps_setLc (i := 5) (own := [("_law_k", 6)]) (g := (gName 6)) (tt := tYes) rfl sc_text_by.nd rfl rfl (sw_true rfl rfl rfl (by decide +kernel)) (pi_range1 (by rfl) T.b_range (pa_cons (pv 3) pa_nil)) (blkOk_by (N := ["_law_script", "_law_first", "_law_signs", "_law_size", "_law_more", "_law_cells", "_law_k", "_law_cell"]) (sc := defScope s_text_by) (by decide +kernel)) (fun _ _ _ _ _ => (pg_name (i := 6) sc_text_by.nd rfl (Or.inl rfl))) (fun _ _ _ _ _ => pts_nil) (fun _ _ _ _ _ => (pe_op op_add (pe_cal C__law_cell_at hr (by decide) (by rfl) (pa_cons (pv 0) (pa_cons (pe_op op_add (pe_op op_add (pv 1) pe_int) (pv 6)) pa_nil))) (pe_op op_mul (pv 6) (pv 4)))))
      (pss_one (ps_ret (pe_bm PySem.F.plainAttrs_str PySem.F.slot_str_join PySem.F.type_str_join mt_join pe_str (pa_cons (pe_lc (own := [("_law_cell", 7)]) (g := (gName 7)) (tt := tYes) rfl sc_text_by.nd (pi_list (pv 5)) (blkOk_by (N := ["_law_script", "_law_first", "_law_signs", "_law_size", "_law_more", "_law_cells", "_law_k", "_law_cell"]) (sc := defScope s_text_by) (by decide +kernel)) (fun _ _ _ _ _ => (pg_name (i := 7) sc_text_by.nd rfl (Or.inl rfl))) (fun _ _ _ _ _ => pts_nil) (fun _ _ _ _ _ => (pe_ix ix_str (pv 2) (pe_op op_mod (pv 7) (pe_callB call_len_str (by rfl) T.b_len PySem.boot_len (pa_cons (pv 2) pa_nil))) (fun _ _ => rfl)))) pa_nil)))))), ?_⟩
  refine q_asg (ev_op (ev_cal (ea_cons (ev_var rfl) (ea_cons (ev_var rfl) ea_nil)) (spv_cell (j := f) hs rfl)) ev_c (rv_mod (by decide))) fun H1 e1 => ?_
  have hs' := ex_l e1 hs
  refine q_asgL (el_mapR ((cellsOf ns f n).map V.int) (ea_cons (ev_var rfl) ea_nil) ⟨by omega, by omega⟩ (by simp [cellsOf]) (fun _ => rfl) (fun i y H2 e2 hi hy => ?_)) fun p H2 hp e2 h2 => ?_
  · obtain ⟨y, rfl, hy2⟩ := int_at hy
    obtain ⟨rfl, hi⟩ := cells_at hy2
    refine ev_op (ev_cal (ea_cons (ev_var rfl) (ea_cons (ev_op (ev_op (ev_var rfl) ev_c rv_I0) (ev_var rfl) rv_I0) ea_nil)) (spv_cell (j := f + 1 + i) (ex_l e2 hs') (by omega))) (ev_op (ev_var rfl) (ev_var rfl) (rv_mul (.inl ⟨by omega, by omega⟩))) rv_I0
  have jn := join_ones (textOf ns f ss n)
  have tl := textOf_len ns f ss n
  refine s_ret (ev_is (ev_joinN (ys := (textOf ns f ss n).map fun c => tx [c]) (sep := tx []) (ev_is ev_c str0) ?_ ?_) (w := .str (tx (textOf ns f ss n))) (by rw [jn])) fun H4 e4 => q H4 ((e1.trans e2).trans e4)
  · refine el_mapL _ (ev_var rfl) (sq_of h2) (by simp [cellsOf, tl]) (by simp [cellsOf]; omega) (fun _ => rfl) (fun i x y H4 e4 h3 h4 => ?_)
    obtain ⟨x, rfl, h5⟩ := int_at h3
    obtain ⟨rfl, hi⟩ := cells_at h5
    have ey : y = .str (tx [ss.getD ((cel ns (f + 1 + i) + (i : Int) * (cel ns f % 5)) % (ss.length : Int)).toNat 0]) := by
      unfold textOf at h4
      rw [List.map_map, List.map_map, List.getElem?_map, List.getElem?_range hi] at h4
      exact (Option.some.inj h4).symm
    subst ey
    have g1 := Int.emod_nonneg (cel ns (f + 1 + i) + (i : Int) * (cel ns f % 5)) (show (ss.length : Int) ≠ 0 by omega)
    have g2 := Int.emod_lt_of_pos (cel ns (f + 1 + i) + (i : Int) * (cel ns f % 5)) (show 0 < (ss.length : Int) by omega)
    exact ev_op (ev_var rfl) (ev_op (ev_var rfl) (ev_is (ev_lenZ (ev_var rfl) (by rw [tx_len]; exact sz_of (by omega))) (by rw [tx_len])) (rv_mod (by omega))) (rv_ixS (by rw [tx_len]; omega) (sign_atI g1 g2))
  · rw [ones_sum, List.length_map, tl]
    show n + n * 0 ≤ 16777216
    omega
def RetU (xs : List V) (H : Hp) (Q : VK) : Prop := ∀ p H2, H p = none → Ex H H2 → H2 p = some (.tup xs) → Q (.ref p) H2
def bookU (B : Bk) : List V := [.str (tx B.ss), .int (B.size : Int), .int B.cap]
def sp_bookBy (K : PySem.W.Frag) : Sp := fun vs H Q _ => ∃ (a : Addr) (ns : List Int), vs = [.ref a] ∧ SqL K H a (ns.map V.int) ∧ RetU (bookU (bookOf ns)) H Q
theorem eu_cal {σ : L2.St} {H : Hp} {sp : Sp} {vs xs : List V} {E : XK} {ta : TA} (h : EvA ta σ H vs) (hs : ∀ H1, Ex H H1 → ∀ Q E, RetU xs H1 Q → sp vs H1 Q E) : EvU (tCall sp [] E ta) σ H xs := fun H1 e Q q =>
  h H1 e _ fun H2 e2 => by
    rw [List.append_nil]
    exact hs H2 (e.trans e2) _ _ fun p H3 hp e3 h3 => q p H3 (fresh_back e2 hp) (e2.trans e3) h3
theorem ok_book_by {f : Addr} {fd : FuncData} (T : Txt K mg) (F : Fun K "_law_book_by" "_law_book_by" s_book_by f fd) (C__law_many_by : Cal P w K mg base "_law_many_by" ["_law_cell"] 1 sp_many) (C__law_signs_by : Cal P w K mg base "_law_signs_by" ["_law_cell", "_law_many"] 1 sp_signs) (C__law_cell_at : Cal P w K mg base "_law_cell_at" ["_law_script", "_law_k"] 1 (sp_cell K)) : FnOk P w K mg base CX0 2 f fd ["_law_script"] (sp_bookBy K) := by
  refine F.ok sc_book_by (fun vs H Q E h => by obtain ⟨a, ns, rfl, _⟩ := h; rfl) (fun cdv A outer s H vs Q E hr h => ?_)
  obtain ⟨a, ns, rfl, hs, q⟩ := h
  refine ⟨_, (pss_cons (ps_set (i := 1) sc_book_by.nd rfl (Or.inl rfl) (pe_cal C__law_many_by hr (by decide) (by rfl) (pa_cons (pe_cal C__law_cell_at hr (by decide) (by rfl) (pa_cons (pv 0) (pa_cons pe_int pa_nil))) pa_nil)))
      (pss_cons (ps_set (i := 2) sc_book_by.nd rfl (Or.inl rfl) (pe_cal C__law_signs_by hr (by decide) (by rfl) (pa_cons (pe_cal C__law_cell_at hr (by decide) (by rfl) (pa_cons (pv 0) (pa_cons pe_int pa_nil))) (pa_cons (pv 1) pa_nil))))
      (pss_cons (ps_set (i := 3) sc_book_by.nd rfl (Or.inl rfl) (pe_op op_add pe_int (pe_op op_mod (pe_cal C__law_cell_at hr (by decide) (by rfl) (pa_cons (pv 0) (pa_cons pe_int pa_nil))) pe_int)))
      (pss_cons (ps_if (pt_cmpR op_eq (pe_op op_mod (pe_op op_fdiv (pe_cal C__law_cell_at hr (by decide) (by rfl) (pa_cons (pv 0) (pa_cons pe_int pa_nil))) pe_int) pe_int) pe_int (nomark _)) (pss_one (ps_set (i := 3) sc_book_by.nd rfl (Or.inl rfl) (pe_op op_add pe_int (pe_op op_mod (pe_op op_fdiv (pe_cal C__law_cell_at hr (by decide) (by rfl) (pa_cons (pv 0) (pa_cons pe_int pa_nil))) pe_int) pe_int)))) pss_nil)
      (pss_cons (ps_if (pt_cmpR op_gt (pv 1) pe_int (nomark _)) (pss_one (ps_set (i := 3) sc_book_by.nd rfl (Or.inl rfl) (pe_callB (call_max2 rfl) (by rfl) T.b_max (by decide +kernel) (pa_cons (pv 3) (pa_cons pe_int pa_nil))))) pss_nil)
      (pss_cons (ps_set (i := 4) sc_book_by.nd rfl (Or.inl rfl) (pe_op op_add (pv 1) (pe_op op_mod (pe_cal C__law_cell_at hr (by decide) (by rfl) (pa_cons (pv 0) (pa_cons pe_int pa_nil))) pe_int)))
      (pss_cons (ps_if (pt_cmpR op_eq (pe_op op_mod (pe_op op_fdiv (pe_cal C__law_cell_at hr (by decide) (by rfl) (pa_cons (pv 0) (pa_cons pe_int pa_nil))) pe_int) pe_int) pe_int (nomark _)) (pss_one (ps_set (i := 4) sc_book_by.nd rfl (Or.inl rfl) (pe_op op_add (pv 1) (pe_op op_mod (pe_op op_fdiv (pe_cal C__law_cell_at hr (by decide) (by rfl) (pa_cons (pv 0) (pa_cons pe_int pa_nil))) pe_int) (pe_op op_sub pe_int (pv 1)))))) pss_nil)
      (pss_one (ps_ret (pe_tup (pa_cons (pv 2) (pa_cons (pv 3) (pa_cons (pv 4) pa_nil))))))))))))), ?_⟩
  refine q_asg (ev_cal (ea_cons (ev_cal (ea_cons (ev_var rfl) (ea_cons ev_c ea_nil)) (spv_cell (j := 0) hs rfl)) ea_nil) (spv fun _ _ Q E q => ⟨_, rfl, q⟩)) fun H1 e1 => ?_
  have hm := manyOf_pos (cel ns 0)
  have hB : bookU (bookOf ns) = [.str (tx (signsOf (cel ns 1) (manyOf (cel ns 0)).toNat)), .int (((bkS (manyOf (cel ns 0)) (bkZ (cel ns 2))).toNat : Nat) : Int), .int (bkC (manyOf (cel ns 0)) (cel ns 3))] := rfl
  rw [hB] at q
  clear hB
  generalize manyOf (cel ns 0) = m at hm q ⊢
  refine q_asg (ev_cal (ea_cons (ev_cal (ea_cons (ev_var rfl) (ea_cons ev_c ea_nil)) (spv_cell (j := 1) (ex_l e1 hs) rfl)) (ea_cons (ev_var rfl) ea_nil)) (spv fun _ _ Q E q => ⟨_, m.toNat, by rw [show ((m.toNat : Nat) : Int) = m by omega], by omega, q⟩)) fun H2 e2 => ?_
  have e12 := e1.trans e2
  refine q_asg (ev_op ev_c (ev_op (ev_cal (ea_cons (ev_var rfl) (ea_cons ev_c ea_nil)) (spv_cell (j := 2) (ex_l e12 hs) rfl)) ev_c (rv_mod (by decide))) rv_I0) fun H3 e3 => ?_
  have e13 := e12.trans e3
  have hz := bkZ_ok (cel ns 2)
  refine q_ifAsg (v := .int (bkZ (cel ns 2))) (et_test (ev_op (ev_op (ev_op (ev_cal (ea_cons (ev_var rfl) (ea_cons ev_c ea_nil)) (spv_cell (j := 2) (ex_l e13 hs) rfl)) ev_c (rv_fdiv (by decide))) ev_c (rv_mod (by decide))) ev_c (rv_eq rfl))) (fun hb => ?_) (fun hb => ?_) fun H4 e4 => ?_
  · have hb : cel ns 2 / 6 % 4 = 1 := V.int.inj (of_decide_eq_true hb)
    refine ev_is (ev_op ev_c (ev_op (ev_op (ev_cal (ea_cons (ev_var rfl) (ea_cons ev_c ea_nil)) (spv_cell (j := 2) (ex_l e13 hs) rfl)) ev_c (rv_fdiv (by decide))) ev_c (rv_mod (by decide))) rv_I0) ?_
    unfold bkZ
    rw [if_pos hb]
  · have hb : ¬ cel ns 2 / 6 % 4 = 1 := fun z => of_decide_eq_false hb (by rw [z])
    unfold bkZ
    rw [if_neg hb]
    rfl
  generalize bkZ (cel ns 2) = z at hz q ⊢
  have e14 := e13.trans e4
  refine q_ifAsg (v := .int (bkS m z)) (et_test (ev_op (ev_var rfl) ev_c rv_I0)) (fun hb => ?_) (fun hb => ?_) fun H5 e5 => ?_
  · have hb := of_decide_eq_true hb
    refine ev_is (ev_max2 (ev_var rfl) ev_c) ?_
    unfold bkS
    rw [if_pos hb]
  · have hb := of_decide_eq_false hb
    unfold bkS
    rw [if_neg hb]
    rfl
  have hs2 := bkS_ok (m := m) hz
  generalize bkS m z = y at hs2 q ⊢
  have e15 := e14.trans e5
  refine q_asg (ev_op (ev_var rfl) (ev_op (ev_cal (ea_cons (ev_var rfl) (ea_cons ev_c ea_nil)) (spv_cell (j := 3) (ex_l e15 hs) rfl)) ev_c (rv_mod (by decide))) rv_I0) fun H6 e6 => ?_
  have e16 := e15.trans e6
  refine q_ifAsg (v := .int (bkC m (cel ns 3))) (et_test (ev_op (ev_op (ev_op (ev_cal (ea_cons (ev_var rfl) (ea_cons ev_c ea_nil)) (spv_cell (j := 3) (ex_l e16 hs) rfl)) ev_c (rv_fdiv (by decide))) ev_c (rv_mod (by decide))) ev_c (rv_eq rfl))) (fun hb => ?_) (fun hb => ?_) fun H7 e7 => ?_
  · have hb : cel ns 3 / 12 % 4 = 1 := V.int.inj (of_decide_eq_true hb)
    refine ev_is (ev_op (ev_var rfl) (ev_op (ev_op (ev_cal (ea_cons (ev_var rfl) (ea_cons ev_c ea_nil)) (spv_cell (j := 3) (ex_l e16 hs) rfl)) ev_c (rv_fdiv (by decide))) (ev_op ev_c (ev_var rfl) rv_I0) (rv_mod (by omega))) rv_I0) ?_
    unfold bkC
    rw [if_pos hb]
  · have hb : ¬ cel ns 3 / 12 % 4 = 1 := fun z => of_decide_eq_false hb (by rw [z])
    unfold bkC
    rw [if_neg hb]
    rfl
  refine s_retU (eu_tup (ea_cons (ev_var rfl) (ea_cons (ev_var rfl) (ea_cons (ev_var rfl) ea_nil))) (by simp)) fun p H8 hp e8 h8 => q p H8 (fresh_back (e16.trans e7) hp) ((e16.trans e7).trans e8) ?_
  rw [show ((y.toNat : Nat) : Int) = y by omega]
  exact h8
/-! what read does with the lines of the law -/
theorem bits_all {P : List Nat} (h : ∀ b ∈ P, b = 48 ∨ b = 49) : BitsB P = true := List.all_eq_true.mpr fun c hc => decide_eq_true (h c hc)
theorem bits_no {P ex : List Nat} {c : Nat} (hc : c ∈ ex) (h : ¬ (c = 48 ∨ c = 49)) : BitsB (P ++ ex) = false := by
  cases h1 : BitsB (P ++ ex) with
  | false => rfl
  | true => exact absurd (of_decide_eq_true (List.all_eq_true.mp h1 c (List.mem_append_right _ hc))) h
section
variable {B : Bk} {ts bs cs l : List Nat} {n m : Nat}
theorem read_ok (hB : BookOk B) (hm : ∀ c ∈ ts, c ∈ B.ss) (hn : ts.length ≤ 2000) : ReadTo B (lineOf B ts) (.ok (.str (tx ts))) := by
  obtain ⟨k1, _⟩ := packF_ok hB ts _ (LS.start_ok hB) hm
  have hF := Fol.whole hB (LS.start_ok hB) hm []
  rw [List.append_nil] at hF
  exact .inr ⟨dg ts.length, _, rfl, dg_no32 _, .inr ⟨dg_isCt (by omega), _, dg_int (by omega), .inr ⟨ts.length, rfl, hn, .inr ⟨bits_all k1, ts, _, 0, [], [], hF, .inr (.inr ⟨rfl, rfl, rfl⟩)⟩⟩⟩⟩
theorem read_form (h : isCt cs = false) (h2 : 32 ∉ cs) : ReadTo B (cs ++ 32 :: bs) (.bad "BadLine") := .inr ⟨cs, bs, rfl, h2, .inl ⟨h, rfl⟩⟩
theorem read_blank (h : 32 ∉ l) : ReadTo B l (.bad "BadLine") := .inl ⟨h, rfl⟩
theorem read_great (h1 : 2000 < m) (h2 : m < 10000) : ReadTo B (dg m ++ 32 :: bs) (.bad "BadCount") := .inr ⟨dg m, bs, rfl, dg_no32 _, .inr ⟨dg_isCt h2, _, dg_int h2, .inl ⟨by omega, rfl⟩⟩⟩
theorem read_bit (hn : n ≤ 2000) (h : BitsB bs = false) : ReadTo B (dg n ++ 32 :: bs) (.bad "BadBit") := .inr ⟨dg n, bs, rfl, dg_no32 _, .inr ⟨dg_isCt (by omega), _, dg_int (by omega), .inr ⟨n, rfl, hn, .inl ⟨h, rfl⟩⟩⟩⟩
theorem read_loose (hB : BookOk B) (hm : ∀ c ∈ ts, c ∈ B.ss) (hn : ts.length ≤ 2000) : ReadTo B (lineOf B ts ++ [49]) (.bad "Loose") := by
  obtain ⟨k1, _⟩ := packF_ok hB ts _ (LS.start_ok hB) hm
  have hF := Fol.whole hB (LS.start_ok hB) hm [49]
  refine .inr ⟨dg ts.length, packF B (LS.start B) ts ++ [49], by simp [lineOf], dg_no32 _, .inr ⟨dg_isCt (by omega), _, dg_int (by omega), .inr ⟨ts.length, rfl, hn, .inr ⟨bits_all fun b hb => ?_, ts, _, 0, [], [49], hF, .inl ⟨by simp, rfl⟩⟩⟩⟩⟩
  rcases List.mem_append.mp hb with hb | hb
  · exact k1 b hb
  · exact .inr (by simpa using hb)
theorem no_empty {s : LS} (hs : s.Ok B) (h2 : 2 ≤ B.ss.length) (hd : B.ss.Nodup) : [] ∉ HF.codes s.ns := fun hw => by
  obtain ⟨j, hj⟩ := List.mem_iff_getElem?.mp hw
  have one : ∀ c ∈ B.ss, j = B.ss.idxOf c := fun c hc => HF.code_apart hs.sh.1 hj (show _ = some ([] ++ code1 B s c) from code1_get hs hc)
  have e0 := one _ (List.getElem_mem (show 0 < B.ss.length by omega))
  have e1 := one _ (List.getElem_mem (show 1 < B.ss.length by omega))
  have a0 := idx_at (List.getElem_mem (show 0 < B.ss.length by omega))
  have a1 := idx_at (List.getElem_mem (show 1 < B.ss.length by omega))
  rw [← e0] at a0
  rw [← e1, a0] at a1
  have := (List.getElem_inj hd).mp (Option.some.inj a1)
  omega
theorem read_short (hB : BookOk B) (hm : ∀ c ∈ ts, c ∈ B.ss) (h2 : 1 < B.ss.length) (h3 : ts.length < m) (h4 : m ≤ 2000) : ReadTo B (dg m ++ 32 :: packF B (LS.start B) ts) (.bad "Short") := by
  have hO := LS.start_ok hB
  obtain ⟨k1, _⟩ := packF_ok hB ts _ hO hm
  have hO2 := LS.steps_ok hB ts _ hO
  have hF := Fol.text hB (n := m - ts.length - 1 + 1) (rest := []) (kn := []) ts (LS.start B) hO hm (.stuck (no_empty hO2 (by omega) hB.1.2.2.1))
  rw [List.append_nil, List.append_nil, show m - ts.length - 1 + 1 + ts.length = m by omega] at hF
  exact .inr ⟨dg m, _, rfl, dg_no32 _, .inr ⟨dg_isCt (by omega), _, dg_int (by omega), .inr ⟨m, rfl, h4, .inr ⟨bits_all k1, ts, _, _, _, _, hF, .inr (.inl ⟨rfl, by omega, rfl⟩)⟩⟩⟩⟩
theorem line_len (hB : BookOk B) (hm : ∀ c ∈ ts, c ∈ B.ss) (hn : n < 10000) : (dg n ++ 32 :: packF B (LS.start B) ts).length ≤ 40 * ts.length + 5 := by
  obtain ⟨_, k2⟩ := packF_ok hB ts _ (LS.start_ok hB) hm
  have := dg_len4 hn
  rw [List.length_append, List.length_cons]
  omega
end
def exs : List (List Nat) := [[120, 48], [32, 48], [50, 48], [10], [9], [48, 10], [48, 48, 32]]
theorem exs_bad : ∀ k : Fin 7, (∃ c ∈ exs.getD k [], ¬ (c = 48 ∨ c = 49)) ∧ (exs.getD k []).length ≤ 3 := by decide
theorem exs_at {i : Int} (h0 : 0 ≤ i) (h1 : i < 7) : atI ([.str "x0", .str " 0", .str "20", .str "\n", .str "\t", .str "0\n", .str "00 "] : List V) i = some (.str (tx (exs.getD i.toNat []))) := by
  obtain ⟨k, rfl⟩ : ∃ k : Nat, i = (k : Int) := ⟨i.toNat, by omega⟩
  refine atI_nat ?_
  rw [Int.toNat_natCast]
  match k, h1 with
  | 0, _ => exact congrArg (fun s => some (V.str s)) (by decide +kernel)
  | 1, _ => exact congrArg (fun s => some (V.str s)) (by decide +kernel)
  | 2, _ => exact congrArg (fun s => some (V.str s)) (by decide +kernel)
  | 3, _ => exact congrArg (fun s => some (V.str s)) (by decide +kernel)
  | 4, _ => exact congrArg (fun s => some (V.str s)) (by decide +kernel)
  | 5, _ => exact congrArg (fun s => some (V.str s)) (by decide +kernel)
  | 6, _ => exact congrArg (fun s => some (V.str s)) (by decide +kernel)
  | k + 7, h => omega
section
variable {mg : Str → Option Value} {σ : L2.St} {H : Hp} {ta tb : TE}
theorem ev_addT {a b : List Nat} (ha : Ev ta σ H (.str (tx a))) (hb : Ev tb σ H (.str (tx b))) (hz : a.length + b.length ≤ 90000) : Ev (tOp (fun x y H Q => ∃ i j, x = .str i ∧ y = .str j ∧ i.length + j.length ≤ sizeLine ∧ Q (.str (i ++ j)) H) ta tb) σ H (.str (tx (a ++ b))) :=
  ev_is (ev_op ha hb (rv_addS (by rw [tx_len, tx_len]; exact sz_of (by omega)))) (by rw [tx_app])
theorem ev_k {s : String} (l : List Nat) (h : PySem.Str.ofString s = tx l) : Ev (tC (.str (PySem.Str.ofString s))) σ H (.str (tx l)) := ev_is ev_c (congrArg V.str h)
theorem ev_strN {n : Nat} (h : Ev ta σ H (.int (n : Int))) (hn : n ≤ 100000) : Ev (tCB (fun xs H Q => ∃ i, xs = [.int i] ∧ i.natAbs.log2 < 1920 ∧ Q (.str (toString i)) H) (tCons ta tNil)) σ H (.str (tx (dg n))) :=
  ev_cb (ea_cons h ea_nil) fun H1 _ Q q => ⟨_, rfl, lg_of hn, by rw [dg_str]; exact q H1 (Ex.refl _)⟩
theorem spv_told {b : Addr} {B : Bk} {line : List Nat} {D : Str} (hb : BookAt mg H b B) (hB : BookOk B) (hl : line.length ≤ 90000) (hD : D ∈ fiveE) (hR : ReadTo B line (.bad D)) : SpV (sp_told mg) [.ref b, .str (tx line)] H (.str (toldW D)) :=
  spv fun H1 e1 Q E q => ⟨b, B, line, D, rfl, hb.ex e1, hB, hl, hD, hR, q⟩
theorem spv_read {b : Addr} {B : Bk} {line ts : List Nat} (hb : BookAt mg H b B) (hB : BookOk B) (hl : line.length ≤ 90000) (hR : ReadTo B line (.ok (.str (tx ts)))) : SpV (sp_read mg) [.ref b, .str (tx line)] H (.str (tx ts)) :=
  spv fun H1 e1 Q E q => ⟨b, B, line, _, rfl, hb.ex e1, hB, hl, hR, q⟩
theorem spv_written {b : Addr} {B : Bk} {ts : List Nat} (hb : BookAt mg H b B) (hB : BookOk B) (hm : ∀ c ∈ ts, c ∈ B.ss) (hl : ts.length ≤ 2000) : SpV (sp_written mg) [.ref b, .str (tx ts)] H (.str (tx (lineOf B ts))) :=
  spv fun H1 e1 Q E q => ⟨b, B, ts, rfl, hb.ex e1, hB, hm, hl, by have := (packF_ok hB ts _ (LS.start_ok hB) hm).2; omega, q⟩
theorem spv_bad {c : Int} {n : Nat} (hn : n < 10000) : SpV sp_bad [.int c, .int (n : Int)] H (.str (tx (badOf c n))) := spv fun H1 e1 Q E q => ⟨c, n, rfl, hn, q⟩
theorem td1 : (!decide (V.str (toldW "BadLine") = V.str "lineTrue")) = false := by rw [decide_eq_true (congrArg V.str (by decide +kernel))]; rfl
theorem td2 : (!decide (V.str (toldW "BadCount") = V.str "countTrue")) = false := by rw [decide_eq_true (congrArg V.str (by decide +kernel))]; rfl
theorem td3 : (!decide (V.str (toldW "BadBit") = V.str "bitTrue")) = false := by rw [decide_eq_true (congrArg V.str (by decide +kernel))]; rfl
theorem td4 : (!decide (V.str (toldW "Short") = V.str "shortTrue")) = false := by rw [decide_eq_true (congrArg V.str (by decide +kernel))]; rfl
theorem td5 : decide (V.str (toldW "Loose") = V.str "looseTrue") = true := decide_eq_true (congrArg V.str (by decide +kernel))
end
theorem ok_law {f : Addr} {fd : FuncData} (T : Txt K mg) (F : Fun K "law" "law" s_law f fd) (C__law_book_by : Cal P w K mg base "_law_book_by" ["_law_script"] 2 (sp_bookBy K)) (N_Book : Mkr P w K mg base "Book" ["self", "signs", "size", "cap"] 2 (sp_Binit mg)) (C__law_text_by : Cal P w K mg base "_law_text_by" ["_law_script", "_law_first", "_law_signs", "_law_size"] 2 (sp_textBy K)) (C_pack : Cal P w K mg base "pack" ["book", "text"] 9 (sp_pack mg)) (C_written : Cal P w K mg base "written" ["book", "text"] 10 (sp_written mg)) (C_read : CalX P w K mg base "read" ["book", "line"] 11 (sp_read mg)) (C__law_cell_at : Cal P w K mg base "_law_cell_at" ["_law_script", "_law_k"] 1 (sp_cell K)) (C__law_told : Cal P w K mg base "_law_told" ["_law_book", "_law_line"] 12 (sp_told mg)) (C__law_bad_count : Cal P w K mg base "_law_bad_count" ["_law_cell", "_law_many"] 1 sp_bad) : FnOk P w K mg base CX0 13 f fd ["_law_script"] (sp_law K) := by
  refine F.ok sc_law (fun vs H Q E h => by obtain ⟨a, ns, rfl, _⟩ := h; rfl) (fun cdv A outer s H vs Q E hr h => ?_)
  obtain ⟨a, ns, rfl, hs, hlen, q⟩ := h
  refine ⟨_, (pss_cons (ps_asg (pe_cal C__law_book_by hr (by decide) (by rfl) (pa_cons (pv 0) pa_nil)) (pg_tup rfl (pgs_cons (pg_name (i := 1) sc_law.nd rfl (Or.inl rfl)) (pgs_cons (pg_name (i := 2) sc_law.nd rfl (Or.inl rfl)) (pgs_cons (pg_name (i := 3) sc_law.nd rfl (Or.inl rfl)) pgs_nil)))))
      (pss_cons (ps_set (i := 4) sc_law.nd rfl (Or.inl rfl) (pe_op op_mod (pe_cal C__law_cell_at hr (by decide) (by rfl) (pa_cons (pv 0) (pa_cons pe_int pa_nil))) pe_int))
      (pss_cut (ps_if (PW.pt (pw_and (pt_chain op_lt op_lt pe_int (pe_callB call_len_str (by rfl) T.b_len PySem.boot_len (pa_cons (pv 1) pa_nil)) pe_int) (pw_and1 (pt_cmpR op_eq (pe_op op_mod (pe_op op_fdiv (pe_cal C__law_cell_at hr (by decide) (by rfl) (pa_cons (pv 0) (pa_cons pe_int pa_nil))) pe_int) pe_int) pe_int (nomark _))))) (pss_cons (ps_set (i := 4) sc_law.nd rfl (Or.inl rfl) (pe_op op_add pe_int (pe_op op_mod (pe_op op_fdiv (pe_cal C__law_cell_at hr (by decide) (by rfl) (pa_cons (pv 0) (pa_cons pe_int pa_nil))) pe_int) pe_int)))
      (pss_one (ps_set (i := 2) sc_law.nd rfl (Or.inl rfl) (pe_callB (call_max2 rfl) (by rfl) T.b_max (by decide +kernel) (pa_cons (pv 2) (pa_cons pe_int pa_nil)))))) pss_nil)
      (pss_cons (ps_set (i := 5) sc_law.nd rfl (Or.inl rfl) (pe_mkr N_Book hr (by decide) (by rfl) (pa_cons (pv 1) (pa_cons (pv 2) (pa_cons (pv 3) pa_nil)))))
      (pss_cons (ps_set (i := 6) sc_law.nd rfl (Or.inl rfl) (pe_cal C__law_text_by hr (by decide) (by rfl) (pa_cons (pv 0) (pa_cons pe_int (pa_cons (pv 1) (pa_cons (pv 4) pa_nil))))))
      (pss_cut (ps_if (PW.pt (pw_and (pt_cmpR op_eq (pe_callB call_len_str (by rfl) T.b_len PySem.boot_len (pa_cons (pv 1) pa_nil)) pe_int (nomark _)) (pw_and1 (pt_cmpR op_eq (pe_op op_mod (pe_op op_fdiv (pe_cal C__law_cell_at hr (by decide) (by rfl) (pa_cons (pv 0) (pa_cons pe_int pa_nil))) pe_int) pe_int) pe_int (nomark _))))) (pss_one (ps_set (i := 6) sc_law.nd rfl (Or.inl rfl) (pe_op op_repS (pv 1) (pe_op op_mod (pe_op op_fdiv (pe_cal C__law_cell_at hr (by decide) (by rfl) (pa_cons (pv 0) (pa_cons pe_int pa_nil))) pe_int) pe_int)))) pss_nil)
      (pss_cons (ps_set (i := 7) sc_law.nd rfl (Or.inl rfl) (pe_cal C_pack hr (by decide) (by rfl) (pa_cons (pv 5) (pa_cons (pv 6) pa_nil))))
      (pss_cons (ps_set (i := 8) sc_law.nd rfl (Or.inl rfl) (pe_cal C_written hr (by decide) (by rfl) (pa_cons (pv 5) (pa_cons (pv 6) pa_nil))))
      (pss_cons (ps_if (PW.pt (pw_or (pt_not (pt_val (pe_callB call_isi (by rfl) T.b_isinstance (by decide +kernel) (pa_cons (pv 8) (pa_cons (pe_bltn (v := .ty "str") (by rfl) T.b_str (by decide +kernel) rfl) pa_nil))))) (pw_or1 (pt_cmpR op_ne (pv 8) (pe_op op_add_str (pe_op op_add_str (pe_callTy call_str_int (by rfl) T.b_str (by decide +kernel) (pa_cons (pe_callB call_len_str (by rfl) T.b_len PySem.boot_len (pa_cons (pv 6) pa_nil)) pa_nil)) pe_str) (pv 7)) (nomark _))))) (pss_one (ps_ret pe_bl)) pss_nil)
      (pss_cons (ps_set (i := 9) sc_law.nd rfl (Or.inl rfl) (pe_calX C_read passL hr (by decide) (by rfl) (pa_cons (pv 5) (pa_cons (pv 8) pa_nil))))
      (pss_cons (ps_if (PW.pt (pw_or (pt_not (pt_val (pe_callB call_isi (by rfl) T.b_isinstance (by decide +kernel) (pa_cons (pv 9) (pa_cons (pe_bltn (v := .ty "str") (by rfl) T.b_str (by decide +kernel) rfl) pa_nil))))) (pw_or1 (pt_cmpR op_ne (pv 9) (pv 6) (nomark _))))) (pss_one (ps_ret pe_bl)) pss_nil)
      (pss_cons (ps_if (PW.pt (pw_or (pt_cmpR op_ne (pe_calX C_read passL hr (by decide) (by rfl) (pa_cons (pv 5) (pa_cons (pe_cal C_written hr (by decide) (by rfl) (pa_cons (pv 5) (pa_cons (pe_slice sl_str (pv 6) (po_some pe_int) po_none) pa_nil))) pa_nil))) (pe_slice sl_str (pv 6) (po_some pe_int) po_none) (nomark _)) (pw_or1 (pt_cmpR op_ne (pe_cal C_written hr (by decide) (by rfl) (pa_cons (pv 5) (pa_cons (pv 6) pa_nil))) (pv 8) (nomark _))))) (pss_one (ps_ret pe_bl)) pss_nil)
      (pss_cons (ps_set (i := 10) sc_law.nd rfl (Or.inl rfl) (pe_cal C__law_cell_at hr (by decide) (by rfl) (pa_cons (pv 0) (pa_cons pe_int pa_nil))))
      (pss_cons (ps_if (pt_cmpR op_ne (pe_cal C__law_told hr (by decide) (by rfl) (pa_cons (pv 5) (pa_cons (pe_op op_add_str (pe_op op_add_str (pe_op op_add_str (pe_cal C__law_bad_count hr (by decide) (by rfl) (pa_cons (pv 10) (pa_cons (pe_callB call_len_str (by rfl) T.b_len PySem.boot_len (pa_cons (pv 6) pa_nil)) pa_nil))) pe_str) (pv 7)) pe_str) pa_nil))) pe_str (nomark _)) (pss_one (ps_ret pe_bl)) pss_nil)
      (pss_cons (ps_if (pt_cmpR op_ne (pe_cal C__law_told hr (by decide) (by rfl) (pa_cons (pv 5) (pa_cons (pe_op op_add_str (pe_callTy call_str_int (by rfl) T.b_str (by decide +kernel) (pa_cons (pe_callB call_len_str (by rfl) T.b_len PySem.boot_len (pa_cons (pv 6) pa_nil)) pa_nil)) (pv 7)) pa_nil))) pe_str (nomark _)) (pss_one (ps_ret pe_bl)) pss_nil)
      (pss_cons (ps_set (i := 11) sc_law.nd rfl (Or.inl rfl) (pe_op op_add pe_int (pe_op op_mod (pv 10) pe_int)))
      (pss_cons (ps_if (pt_cmpR op_ne (pe_cal C__law_told hr (by decide) (by rfl) (pa_cons (pv 5) (pa_cons (pe_op op_add_str (pe_op op_add_str (pe_op op_add_str (pe_callTy call_str_int (by rfl) T.b_str (by decide +kernel) (pa_cons (pv 11) pa_nil)) pe_str) (pv 7)) pe_str) pa_nil))) pe_str (nomark _)) (pss_one (ps_ret pe_bl)) pss_nil)
      (pss_cons (ps_if (pt_cmpR op_ne (pe_cal C__law_told hr (by decide) (by rfl) (pa_cons (pv 5) (pa_cons (pe_op op_add_str (pv 8) (pe_ix ix_list (pe_lst (pa_cons pe_str (pa_cons pe_str (pa_cons pe_str (pa_cons pe_str (pa_cons pe_str (pa_cons pe_str (pa_cons pe_str pa_nil)))))))) (pe_op op_mod (pv 10) pe_int) (fun _ _ => rfl))) pa_nil))) pe_str (nomark _)) (pss_one (ps_ret pe_bl)) pss_nil)
      (pss_cons (ps_if (PW.pt (pw_and (pt_cmpR op_gt (pe_callB call_len_str (by rfl) T.b_len PySem.boot_len (pa_cons (pv 1) pa_nil)) pe_int (nomark _)) (pw_and1 (pt_cmpR op_ne (pe_cal C__law_told hr (by decide) (by rfl) (pa_cons (pv 5) (pa_cons (pe_op op_add_str (pe_op op_add_str (pe_callTy call_str_int (by rfl) T.b_str (by decide +kernel) (pa_cons (pe_op op_add (pe_callB call_len_str (by rfl) T.b_len PySem.boot_len (pa_cons (pv 6) pa_nil)) pe_int) pa_nil)) pe_str) (pv 7)) pa_nil))) pe_str (nomark _))))) (pss_one (ps_ret pe_bl)) pss_nil)
      (pss_cons (ps_if (PW.pt (pw_and (pt_cmpR op_gt (pe_callB call_len_str (by rfl) T.b_len PySem.boot_len (pa_cons (pv 1) pa_nil)) pe_int (nomark _)) (pw_and1 (pt_cmpR op_ne (pe_cal C__law_told hr (by decide) (by rfl) (pa_cons (pv 5) (pa_cons (pe_op op_add_str (pe_op op_add_str (pe_callTy call_str_int (by rfl) T.b_str (by decide +kernel) (pa_cons (pe_op op_add pe_int (pe_op op_mod (pv 10) pe_int)) pa_nil)) pe_str) (pv 7)) pa_nil))) pe_str (nomark _))))) (pss_one (ps_ret pe_bl)) pss_nil)
      (pss_one (ps_ret (pe_cmpR op_eq (pe_cal C__law_told hr (by decide) (by rfl) (pa_cons (pv 5) (pa_cons (pe_op op_add_str (pv 8) pe_str) pa_nil))) pe_str (nomark _)))))))))))))))))))))))), ?_⟩
  have hB0 := bookOf_ok ns
  refine q_asg3 (eu_cal (ea_cons (ev_var rfl) ea_nil) fun H1 e1 Q E q => ⟨a, ns, rfl, ex_l e1 hs, q⟩) fun H1 e1 => ?_
  generalize bookOf ns = B0 at hB0 ⊢
  obtain ⟨⟨hs1, hs2, hs3, hs4⟩, hz1, hz2, hc1, hc2⟩ := id hB0
  have cl : ∀ {H'} (j : Nat), Ex H1 H' → SpV (sp_cell K) [.ref a, .int (j : Int)] H' (.int (cel ns j)) := fun j e => spv_cell (ex_l (e1.trans e) hs) rfl
  refine q_asg (ev_op (ev_cal (ea_cons (ev_var rfl) (ea_cons ev_c ea_nil)) (cl 4 (Ex.refl _))) ev_c (rv_mod (by decide))) fun H2 e2 => ?_
  have ssl : (tx B0.ss).length ≤ sizeLine := by rw [tx_len]; exact sz_of (by omega)
  have d4 : ∀ {σ' H'}, Ex H1 H' → σ'[0]? = some (some (.ref a)) → ∀ k : Int, 0 < k ∧ k < 1073741824 → Ev (tOp (rI CDiv fun i j => .int (i / j)) (tCall (sp_cell K) [] E0 (tCons (tVar 0) (tCons (tC (.int 4)) tNil))) (tC (.int k))) σ' H' (.int (cel ns 4 / k)) := fun e h0 k hk => ev_op (ev_cal (ea_cons (ev_var h0) (ea_cons ev_c ea_nil)) (cl 4 e)) ev_c (rv_fdiv hk)
  refine q_cut (M := fun σ' H' => Ex H1 H' ∧ ∃ n z : Nat, n ≤ 130 ∧ 1 ≤ z ∧ z ≤ 99 ∧ σ' = [some (.ref a), some (.str (tx B0.ss)), some (.int (z : Int)), some (.int B0.cap), some (.int (n : Int)), none, none, none, none, none, none, none]) ?_ fun σ4 H4 mid => ?_
  · refine s_when (et_and (et_test (ev_chain ev_c (ev_lenZ (ev_var rfl) ssl) ev_c)) fun _ => et_test (ev_op (ev_op (d4 e2 rfl 21 (by decide)) ev_c (rv_mod (by decide))) ev_c (rv_eq rfl))) (fun _ H4 e4 => ?_) (fun _ H4 e4 => ?_)
    · refine q_asg (ev_op ev_c (ev_op (d4 (e2.trans e4) rfl 63 (by decide)) ev_c (rv_mod (by decide))) rv_I0) fun H5 e5 => ?_
      refine s_asg (ev_max2 (ev_var rfl) ev_c) fun H6 e6 => ?_
      refine ⟨((e2.trans e4).trans e5).trans e6, (90 + cel ns 4 / 63 % 41).toNat, (if (20 : Int) > (B0.size : Int) then (20 : Int) else (B0.size : Int)).toNat, by omega, by split <;> omega, by split <;> omega, ?_⟩
      rw [show (((90 + cel ns 4 / 63 % 41).toNat : Nat) : Int) = 90 + cel ns 4 / 63 % 41 by omega, show (((if (20 : Int) > (B0.size : Int) then (20 : Int) else (B0.size : Int)).toNat : Nat) : Int) = (if (20 : Int) > (B0.size : Int) then (20 : Int) else (B0.size : Int)) by split <;> omega]
      rfl
    · refine ⟨e2.trans e4, (cel ns 4 % 21).toNat, B0.size, by omega, hz1, hz2, ?_⟩
      rw [show (((cel ns 4 % 21).toNat : Nat) : Int) = cel ns 4 % 21 by omega]
      rfl
  obtain ⟨e5, n0, z, hn0, hz11, hz12, rfl⟩ := mid
  obtain ⟨B, hBd⟩ : ∃ B : Bk, B = ⟨B0.ss, z, B0.cap⟩ := ⟨_, rfl⟩
  have hB : BookOk B := by rw [hBd]; exact ⟨⟨hs1, hs2, hs3, hs4⟩, hz11, hz12, hc1, hc2⟩
  have tss : B0.ss = B.ss := by rw [hBd]
  have tsz : z = B.size := by rw [hBd]
  have tcp : B0.cap = B.cap := by rw [hBd]
  rw [tss] at hs1 hs2 ssl ⊢
  rw [tsz] at hz11 hz12 ⊢
  rw [tcp]
  clear hBd tss tsz tcp
  refine q_book (B := B) (ea_cons (ev_var rfl) (ea_cons (ev_var rfl) (ea_cons (ev_var rfl) ea_nil))) hB fun b H7 hb7 e7 b7 => ?_
  have hs7 := ex_l ((e1.trans e5).trans e7) hs
  refine q_asg (ev_cal (ea_cons (ev_var rfl) (ea_cons ev_c (ea_cons (ev_var rfl) (ea_cons (ev_var rfl) ea_nil)))) (spv fun H6 e6 Q E q => ⟨a, ns, 5, n0, B.ss, rfl, ex_l e6 hs7, by omega, hs1, by omega, q⟩)) fun H8 e8 => ?_
  refine q_cut (M := fun σ' H' => Ex H7 H' ∧ ∃ ts : List Nat, (∀ c ∈ ts, c ∈ B.ss) ∧ ts.length ≤ 300 ∧ (1 < B.ss.length → ts.length ≤ 130) ∧ σ' = [some (.ref a), some (.str (tx B.ss)), some (.int (B.size : Int)), some (.int B.cap), some (.int (n0 : Int)), some (.ref b), some (.str (tx ts)), none, none, none, none, none]) ?_ fun σ9 H9 mid => ?_
  · refine s_when (et_and (et_is (et_test (ev_op (ev_is (ev_lenZ (ev_var rfl) ssl) (by rw [tx_len])) ev_c (rv_eq rfl))) (b := decide (B.ss.length = 1)) (decide_eq_decide.mpr ⟨fun z => by have := V.int.inj z; omega, fun z => by rw [z]; rfl⟩)) fun _ => et_test (ev_op (ev_op (d4 ((e5.trans e7).trans e8) rfl 21 (by decide)) ev_c (rv_mod (by decide))) ev_c (rv_eq rfl))) (fun hx H10 e10 => ?_) (fun _ H10 e10 => ?_)
    · simp only [Bool.and_eq_true, decide_eq_true_eq] at hx
      have h1 := hx.1
      obtain ⟨c, hc⟩ : ∃ c, B.ss = [c] := List.length_eq_one_iff.mp h1
      have g1 := Int.emod_nonneg (cel ns 4 / 42) (show (301 : Int) ≠ 0 by decide)
      have g2 := Int.emod_lt_of_pos (cel ns 4 / 42) (show (0 : Int) < 301 by decide)
      refine s_asg (ev_repS (c := c) (n := (cel ns 4 / 42 % 301).toNat) (ev_is (ev_var rfl) (by rw [hc])) (ev_is (ev_op (d4 (((e5.trans e7).trans e8).trans e10) rfl 42 (by decide)) ev_c (rv_mod (by decide))) (congrArg V.int (by omega))) (by omega)) fun H11 e11 => ?_
      exact ⟨(e8.trans e10).trans e11, List.replicate _ c, fun d hd => by rw [List.eq_of_mem_replicate hd, hc]; simp, by rw [List.length_replicate]; omega, fun h => by omega, rfl⟩
    · exact ⟨e8.trans e10, textOf ns 5 B.ss n0, textOf_mem hs1, by rw [textOf_len]; omega, fun _ => by rw [textOf_len]; exact hn0, rfl⟩
  obtain ⟨e9, ts, hm, hn, hn2, rfl⟩ := mid
  have b9 := b7.ex e9
  obtain ⟨k1, k2⟩ := packF_ok hB ts _ (LS.start_ok hB) hm
  have hdl := dg_len4 (n := ts.length) (by omega)
  have ll := line_len (n := ts.length) hB hm (by omega)
  have tsl : (tx ts).length ≤ sizeLine := by rw [tx_len]; exact sz_of (by omega)
  refine q_asg (ev_cal (ea_cons (ev_var rfl) (ea_cons (ev_var rfl) ea_nil)) (spv_pack b9 hB hm (by omega))) fun H10 e10 => ?_
  refine q_asg (ev_cal (ea_cons (ev_var rfl) (ea_cons (ev_var rfl) ea_nil)) (spv_written (b9.ex e10) hB hm (by omega))) fun H11 e11 => ?_
  have nl : ∀ {σ' H'}, σ'[6]? = some (some (.str (tx ts))) → Ev (tCB (fun xs H Q => ∃ x, xs = [.str x] ∧ x.length ≤ sizeLine ∧ Q (.int (x.length : Nat)) H) (tCons (tVar 6) tNil)) σ' H' (.int (ts.length : Int)) := fun h => ev_is (ev_lenZ (ev_var h) tsl) (by rw [tx_len])
  have h32 : 32 ∉ packF B (LS.start B) ts := fun z => by have := k1 32 z; omega
  have lq : lineOf B ts = dg ts.length ++ 32 :: packF B (LS.start B) ts := rfl
  have le : dg ts.length ++ [32] ++ packF B (LS.start B) ts = lineOf B ts := by simp [lineOf]
  have f11 := (e10.trans e11)
  refine q_when (b := false) (et_or (a := false) (et_not (a := true) (et_B (ev_isi (ev_var rfl) ev_c (fun _ _ => ty_str) (by decide +kernel)))) fun _ => et_is (et_test (ev_op (ev_var rfl) (ev_is (ev_addT (ev_addT (ev_strN (nl rfl) (by omega)) (ev_k [32] strBl) (by simp; omega)) (ev_var rfl) (by simp; omega)) (by rw [le])) (rv_ne rfl))) (by simp)) (fun hx => nomatch hx) (fun _ H12 e12 => ?_)
  have f12 := f11.trans e12
  refine q_asg (ev_cal (ea_cons (ev_var rfl) (ea_cons (ev_var rfl) ea_nil)) (spv_read (b9.ex f12) hB (by rw [lq]; omega) (read_ok hB hm (by omega)))) fun H13 e13 => ?_
  have f13 := f12.trans e13
  refine q_when (b := false) (et_or (a := false) (et_not (a := true) (et_B (ev_isi (ev_var rfl) ev_c (fun _ _ => ty_str) (by decide +kernel)))) fun _ => et_is (et_test (ev_op (ev_var rfl) (ev_var rfl) (rv_ne rfl))) (by simp)) (fun hx => nomatch hx) (fun _ H14 e14 => ?_)
  have f14 := f13.trans e14
  have hm1 : ∀ c ∈ ts.drop 1, c ∈ B.ss := fun c hc => hm c (List.mem_of_mem_drop hc)
  have hn1 : (ts.drop 1).length ≤ 300 := by rw [List.length_drop]; omega
  have ll1 := line_len (n := (ts.drop 1).length) hB hm1 (by omega)
  refine q_when (b := false) (et_or (a := false) (et_is (et_test (ev_op (ev_cal (ea_cons (ev_var rfl) (ea_cons (ev_cal (ea_cons (ev_var rfl) (ea_cons (ev_fromS (i := 1) (ev_var rfl) ev_c (by omega)) ea_nil)) (spv_written (b9.ex f14) hB hm1 (by omega))) ea_nil)) (spv_read (b9.ex f14) hB (show (dg (ts.drop 1).length ++ 32 :: packF B (LS.start B) (ts.drop 1)).length ≤ 90000 by omega) (read_ok hB hm1 (by omega)))) (ev_fromS (i := 1) (ev_var rfl) ev_c (by omega)) (rv_ne rfl))) (by simp)) fun _ => et_is (et_test (ev_op (ev_cal (ea_cons (ev_var rfl) (ea_cons (ev_var rfl) ea_nil)) (spv_written (b9.ex f14) hB hm (by omega))) (ev_var rfl) (rv_ne rfl))) (by simp)) (fun hx => nomatch hx) (fun _ H15 e15 => ?_)
  have f15 := f14.trans e15
  refine q_asg (ev_cal (ea_cons (ev_var rfl) (ea_cons ev_c ea_nil)) (cl 30 (((e5.trans e7).trans e9).trans f15))) fun H16 e16 => ?_
  generalize cel ns 30 = c
  have f16 := f15.trans e16
  have kx : PySem.Str.ofString "x" = tx [120] := by decide +kernel
  have k1s : PySem.Str.ofString "1" = tx [49] := by decide +kernel
  obtain ⟨g1, g2, g3⟩ := badOf_ok c (n := ts.length) (by omega)
  refine q_when (b := false) (et_is (et_test (ev_op (ev_cal (ea_cons (ev_var rfl) (ea_cons (ev_addT (ev_addT (ev_addT (ev_cal (ea_cons (ev_var rfl) (ea_cons (nl rfl) ea_nil)) (spv_bad (by omega))) (ev_k [32] strBl) (by simp; omega)) (ev_var rfl) (by simp; omega)) (ev_k [120] kx) (by simp; omega)) ea_nil)) (spv_told (D := "BadLine") (b9.ex f16) hB (by simp; omega) (by decide) (by
    have := read_form (B := B) (bs := packF B (LS.start B) ts ++ [120]) g1 g2
    rw [List.append_assoc, List.append_assoc]
    exact this))) ev_c (rv_ne rfl))) td1) (fun hx => nomatch hx) (fun _ H17 e17 => ?_)
  have f17 := f16.trans e17
  refine q_when (b := false) (et_is (et_test (ev_op (ev_cal (ea_cons (ev_var rfl) (ea_cons (ev_addT (ev_strN (nl rfl) (by omega)) (ev_var rfl) (by omega)) ea_nil)) (spv_told (D := "BadLine") (b9.ex f17) hB (by simp; omega) (by decide) (read_blank (by simp [dg_no32, h32])))) ev_c (rv_ne rfl))) td1) (fun hx => nomatch hx) (fun _ H18 e18 => ?_)
  have f18 := f17.trans e18
  have v1 := Int.emod_nonneg c (show (7999 : Int) ≠ 0 by decide)
  have v2 := Int.emod_lt_of_pos c (show (0 : Int) < 7999 by decide)
  refine q_asg (v := .int (((2001 + c % 7999).toNat : Nat) : Int)) (ev_is (ev_op ev_c (ev_op (ev_var rfl) ev_c (rv_mod (by decide))) rv_I0) (congrArg V.int (by omega))) fun H19 e19 => ?_
  have f19 := f18.trans e19
  have w1 : 2000 < (2001 + c % 7999).toNat := by omega
  have w2 : (2001 + c % 7999).toNat < 10000 := by omega
  generalize (2001 + c % 7999).toNat = great at w1 w2 ⊢
  have gl := dg_len4 w2
  refine q_when (b := false) (et_is (et_test (ev_op (ev_cal (ea_cons (ev_var rfl) (ea_cons (ev_addT (ev_addT (ev_addT (ev_strN (ev_var rfl) (by omega)) (ev_k [32] strBl) (by simp; omega)) (ev_var rfl) (by simp; omega)) (ev_k [120] kx) (by simp; omega)) ea_nil)) (spv_told (D := "BadCount") (b9.ex f19) hB (by simp; omega) (by decide) (by
    have := read_great (B := B) (bs := packF B (LS.start B) ts ++ [120]) w1 w2
    rw [List.append_assoc, List.append_assoc]
    exact this))) ev_c (rv_ne rfl))) td2) (fun hx => nomatch hx) (fun _ H20 e20 => ?_)
  have f20 := f19.trans e20
  have x1 := Int.emod_nonneg c (show (7 : Int) ≠ 0 by decide)
  have x2 := Int.emod_lt_of_pos c (show (0 : Int) < 7 by decide)
  obtain ⟨⟨cx, x3, x4⟩, x5⟩ := exs_bad ⟨(c % 7).toNat, by omega⟩
  have xa := exs_at x1 x2
  simp only at x3 x5
  generalize exs.getD (c % 7).toNat [] = ex at x3 x5 xa
  refine q_when (b := false) (et_is (et_test (ev_op (ev_cal (ea_cons (ev_var rfl) (ea_cons (ev_addT (ev_var rfl) (ev_ixD (el_lst (ea_cons ev_c (ea_cons ev_c (ea_cons ev_c (ea_cons ev_c (ea_cons ev_c (ea_cons ev_c (ea_cons ev_c ea_nil))))))) (by show 7 ≤ 100000; decide)) (fun _ _ => ev_op (ev_var rfl) ev_c (rv_mod (by decide))) xa) (by rw [lq]; omega)) ea_nil)) (spv_told (D := "BadBit") (b9.ex f20) hB (by rw [lq, List.length_append]; omega) (by decide) (by
    have := read_bit (B := B) (n := ts.length) (by omega) (bits_no (P := packF B (LS.start B) ts) x3 x4)
    rw [lq, List.append_assoc]
    exact this))) ev_c (rv_ne rfl))) td3) (fun hx => nomatch hx) (fun _ H21 e21 => ?_)
  have f21 := f20.trans e21
  have one : ∀ {σ' H'}, σ'[1]? = some (some (.str (tx B.ss))) → EvT (tTest (tOp (rI0 fun i j => .bl (decide (j < i))) (tCB (fun xs H Q => ∃ x, xs = [.str x] ∧ x.length ≤ sizeLine ∧ Q (.int (x.length : Nat)) H) (tCons (tVar 1) tNil)) (tC (.int 1)))) σ' H' (decide (1 < B.ss.length)) := fun h => et_is (et_test (ev_op (ev_is (ev_lenZ (ev_var h) ssl) (by rw [tx_len])) ev_c rv_I0)) (decide_eq_decide.mpr (by omega))
  have short : ∀ {m : Nat} {H' : Hp} {te : TE} {σ' : L2.St}, Ex H9 H' → σ'[5]? = some (some (.ref b)) → σ'[7]? = some (some (.str (tx (packF B (LS.start B) ts)))) → 1 < B.ss.length → ts.length < m → m ≤ 2000 → Ev te σ' H' (.int (m : Int)) →
      EvT (tTest (tOp rNe (tCall (sp_told mg) [] E0 (tCons (tVar 5) (tCons (tOp (fun x y H Q => ∃ i j, x = .str i ∧ y = .str j ∧ i.length + j.length ≤ sizeLine ∧ Q (.str (i ++ j)) H) (tOp (fun x y H Q => ∃ i j, x = .str i ∧ y = .str j ∧ i.length + j.length ≤ sizeLine ∧ Q (.str (i ++ j)) H) (tCB (fun xs H Q => ∃ i, xs = [.int i] ∧ i.natAbs.log2 < 1920 ∧ Q (.str (toString i)) H) (tCons te tNil)) (tC (.str " "))) (tVar 7)) tNil))) (tC (.str "shortTrue")))) σ' H' false := fun {m H' te σ'} e h5 h7 h1 h2 h3 he => by
    have gl := dg_len4 (n := m) (by omega)
    exact et_is (et_test (ev_op (ev_cal (ea_cons (ev_var h5) (ea_cons (ev_addT (ev_addT (ev_strN he (by omega)) (ev_k [32] strBl) (by simp; omega)) (ev_var h7) (by simp; omega)) ea_nil)) (spv_told (D := "Short") (b9.ex e) hB (by simp; omega) (by decide) (by
      have := read_short hB hm h1 h2 h3
      rw [List.append_assoc]
      exact this))) ev_c (rv_ne rfl))) td4
  refine q_when (b := false) (et_is (et_and (one rfl) (b := false) fun h1 => short (m := ts.length + 1) f21 rfl rfl (of_decide_eq_true h1) (by omega) (by omega) (ev_op (nl rfl) ev_c rv_I0)) (by simp)) (fun hx => nomatch hx) (fun _ H22 e22 => ?_)
  have f22 := f21.trans e22
  have y1 := Int.emod_nonneg c (show (1001 : Int) ≠ 0 by decide)
  have y2 := Int.emod_lt_of_pos c (show (0 : Int) < 1001 by decide)
  refine q_when (b := false) (et_is (et_and (one rfl) (b := false) fun h1 => short (m := (1000 + c % 1001).toNat) f22 rfl rfl (of_decide_eq_true h1) (by have := hn2 (of_decide_eq_true h1); omega) (by omega) (ev_is (ev_op ev_c (ev_op (ev_var rfl) ev_c (rv_mod (by decide))) rv_I0) (congrArg V.int (by omega)))) (by simp)) (fun hx => nomatch hx) (fun _ H23 e23 => ?_)
  have f23 := f22.trans e23
  refine s_ret (ev_is (ev_op (ev_cal (ea_cons (ev_var rfl) (ea_cons (ev_addT (ev_var rfl) (ev_k [49] k1s) (by rw [lq]; simp; omega)) ea_nil)) (spv_told (D := "Loose") (b9.ex f23) hB (by rw [lq]; simp; omega) (by decide) (read_loose hB hm (by omega)))) ev_c (rv_eq rfl)) (w := .bl true) (by rw [td5])) fun H24 e24 => q H24 (((e1.trans e5).trans (e7.trans e9)).trans (f23.trans e24))
end
theorem all_mk {l : PySem.W.OpenLaw} {w : World} {K : PySem.W.Frag} {h : Heap} {mg : Str → Option Value} {fa f0 f1 f2 f3 f4 f5 f6 f7 f8 f9 f10 f11 f12 f13 f14 f15 f16 f17 f18 f19 f20 f21 f22 f23 f24 f25 f26 f27 f28 f29 f30 f31 f32 f33 f34 f35 f36 : Addr} (X : K.In h) (G : h.Ns mainGlobals mg) (hfa : mg "law" = some (.ref fa))
    {ca_BadBit ca_BadBook ca_BadCount ca_BadLine ca_BadShares ca_BadSign ca_Book ca_Learner ca_Loose ca_PackError ca_Packer ca_Short ca_Unpacker : Addr}
    {tk_GREATEST_CAP tk_GREATEST_SHARE tk_LONGEST_BLOCK tk_LONGEST_TEXT tk_MOST_FIGURES tk_MOST_SHARES : Tok}
    {od0 an0 od1 an1 od2 an2 od3 an3 od4 an4 od5 an5 od6 an6 od7 an7 od8 an8 od9 an9 od10 an10 od11 an11 od12 an12 od13 an13 od14 an14 od15 an15 od16 an16 od17 an17 od18 an18 od19 an19 od20 an20 od21 an21 od22 an22 od23 an23 od24 an24 od25 an25 od26 an26 od27 an27 od28 an28 od29 an29 od30 an30 od31 an31 od32 an32 od33 an33 od34 an34 od35 an35 od36 an36 : Option Addr} {sl0 sl1 sl2 sl3 sl4 sl5 sl6 sl7 sl8 sl9 sl10 sl11 sl12 sl13 sl14 sl15 sl16 sl17 sl18 sl19 sl20 sl21 sl22 sl23 sl24 sl25 sl26 sl27 sl28 sl29 sl30 sl31 sl32 sl33 sl34 sl35 sl36 : Array (Option Value)} {oc0 kV0 dc0 pm0 cd0 ct0 oc1 kV1 dc1 pm1 cd1 ct1 oc2 kV2 dc2 pm2 cd2 ct2 oc3 kV3 dc3 pm3 cd3 ct3 oc4 kV4 dc4 pm4 cd4 ct4 oc5 kV5 dc5 pm5 cd5 ct5 oc6 kV6 dc6 pm6 cd6 ct6 oc7 kV7 dc7 pm7 cd7 ct7 oc8 kV8 dc8 pm8 cd8 ct8 oc9 kV9 dc9 pm9 cd9 ct9 oc10 kV10 dc10 pm10 cd10 ct10 oc11 kV11 dc11 pm11 cd11 ct11 oc12 kV12 dc12 pm12 cd12 ct12 oc13 kV13 dc13 pm13 cd13 ct13 oc14 kV14 dc14 pm14 cd14 ct14 oc15 kV15 dc15 pm15 cd15 ct15 oc16 kV16 dc16 pm16 cd16 ct16 oc17 kV17 dc17 pm17 cd17 ct17 oc18 kV18 dc18 pm18 cd18 ct18 oc19 kV19 dc19 pm19 cd19 ct19 oc20 kV20 dc20 pm20 cd20 ct20 oc21 kV21 dc21 pm21 cd21 ct21 oc22 kV22 dc22 pm22 cd22 ct22 oc23 kV23 dc23 pm23 cd23 ct23 oc24 kV24 dc24 pm24 cd24 ct24 oc25 kV25 dc25 pm25 cd25 ct25 oc26 kV26 dc26 pm26 cd26 ct26 oc27 kV27 dc27 pm27 cd27 ct27 oc28 kV28 dc28 pm28 cd28 ct28 oc29 kV29 dc29 pm29 cd29 ct29 oc30 kV30 dc30 pm30 cd30 ct30 oc31 kV31 dc31 pm31 cd31 ct31 oc32 kV32 dc32 pm32 cd32 ct32 oc33 kV33 dc33 pm33 cd33 ct33 oc34 kV34 dc34 pm34 cd34 ct34 oc35 kV35 dc35 pm35 cd35 ct35 oc36 kV36 dc36 pm36 cd36 ct36 : Value}
    (zc_BadBit : PySem.W.nsIn K mainGlobals "BadBit" = some (some (.ref ca_BadBit)))
    (zc_BadBook : PySem.W.nsIn K mainGlobals "BadBook" = some (some (.ref ca_BadBook)))
    (zc_BadCount : PySem.W.nsIn K mainGlobals "BadCount" = some (some (.ref ca_BadCount)))
    (zc_BadLine : PySem.W.nsIn K mainGlobals "BadLine" = some (some (.ref ca_BadLine)))
    (zc_BadShares : PySem.W.nsIn K mainGlobals "BadShares" = some (some (.ref ca_BadShares)))
    (zc_BadSign : PySem.W.nsIn K mainGlobals "BadSign" = some (some (.ref ca_BadSign)))
    (zc_Book : PySem.W.nsIn K mainGlobals "Book" = some (some (.ref ca_Book)))
    (zc_Learner : PySem.W.nsIn K mainGlobals "Learner" = some (some (.ref ca_Learner)))
    (zc_Loose : PySem.W.nsIn K mainGlobals "Loose" = some (some (.ref ca_Loose)))
    (zc_PackError : PySem.W.nsIn K mainGlobals "PackError" = some (some (.ref ca_PackError)))
    (zc_Packer : PySem.W.nsIn K mainGlobals "Packer" = some (some (.ref ca_Packer)))
    (zc_Short : PySem.W.nsIn K mainGlobals "Short" = some (some (.ref ca_Short)))
    (zc_Unpacker : PySem.W.nsIn K mainGlobals "Unpacker" = some (some (.ref ca_Unpacker)))
    (a0 : PySem.W.nsIn K mainGlobals "is_whole" = some (some (.ref f0))) (l0 : K.lookup f0 = some ⟨oc0, od0, .func (PySem.W.fnOf "is_whole" "is_whole" (defArgs s_is_whole) (defBody s_is_whole) (defScope s_is_whole) .none kV0 dc0 pm0 an0 cd0 ct0), sl0⟩) (c0 : PySem.W.codeIn K cd0 "is_whole" = true) (k0 : PySem.W.keepIn K (.ref f0) = true)
    (a1 : PySem.W.nsIn K mainGlobals "check_shares" = some (some (.ref f1))) (l1 : K.lookup f1 = some ⟨oc1, od1, .func (PySem.W.fnOf "check_shares" "check_shares" (defArgs s_check_shares) (defBody s_check_shares) (defScope s_check_shares) .none kV1 dc1 pm1 an1 cd1 ct1), sl1⟩) (c1 : PySem.W.codeIn K cd1 "check_shares" = true) (k1 : PySem.W.keepIn K (.ref f1) = true)
    (a2 : PySem.W.nsIn K mainGlobals "check_counts" = some (some (.ref f2))) (l2 : K.lookup f2 = some ⟨oc2, od2, .func (PySem.W.fnOf "check_counts" "check_counts" (defArgs s_check_counts) (defBody s_check_counts) (defScope s_check_counts) .none kV2 dc2 pm2 an2 cd2 ct2), sl2⟩) (c2 : PySem.W.codeIn K cd2 "check_counts" = true) (k2 : PySem.W.keepIn K (.ref f2) = true)
    (a3 : PySem.W.nsIn K mainGlobals "check_cap" = some (some (.ref f3))) (l3 : K.lookup f3 = some ⟨oc3, od3, .func (PySem.W.fnOf "check_cap" "check_cap" (defArgs s_check_cap) (defBody s_check_cap) (defScope s_check_cap) .none kV3 dc3 pm3 an3 cd3 ct3), sl3⟩) (c3 : PySem.W.codeIn K cd3 "check_cap" = true) (k3 : PySem.W.keepIn K (.ref f3) = true)
    (a4 : PySem.W.nsIn K mainGlobals "learnt" = some (some (.ref f4))) (l4 : K.lookup f4 = some ⟨oc4, od4, .func (PySem.W.fnOf "learnt" "learnt" (defArgs s_learnt) (defBody s_learnt) (defScope s_learnt) .none kV4 dc4 pm4 an4 cd4 ct4), sl4⟩) (c4 : PySem.W.codeIn K cd4 "learnt" = true) (k4 : PySem.W.keepIn K (.ref f4) = true)
    (a5 : PySem.W.nsIn K mainGlobals "pairs" = some (some (.ref f5))) (l5 : K.lookup f5 = some ⟨oc5, od5, .func (PySem.W.fnOf "pairs" "pairs" (defArgs s_pairs) (defBody s_pairs) (defScope s_pairs) .none kV5 dc5 pm5 an5 cd5 ct5), sl5⟩) (c5 : PySem.W.codeIn K cd5 "pairs" = true) (k5 : PySem.W.keepIn K (.ref f5) = true)
    (a6 : PySem.W.nsIn K mainGlobals "codes" = some (some (.ref f6))) (l6 : K.lookup f6 = some ⟨oc6, od6, .func (PySem.W.fnOf "codes" "codes" (defArgs s_codes) (defBody s_codes) (defScope s_codes) .none kV6 dc6 pm6 an6 cd6 ct6), sl6⟩) (c6 : PySem.W.codeIn K cd6 "codes" = true) (k6 : PySem.W.keepIn K (.ref f6) = true)
    (a7 : PySem.W.nsIn K mainGlobals "counted" = some (some (.ref f7))) (l7 : K.lookup f7 = some ⟨oc7, od7, .func (PySem.W.fnOf "counted" "counted" (defArgs s_counted) (defBody s_counted) (defScope s_counted) .none kV7 dc7 pm7 an7 cd7 ct7), sl7⟩) (c7 : PySem.W.codeIn K cd7 "counted" = true) (k7 : PySem.W.keepIn K (.ref f7) = true)
    (a8 : PySem.W.nsIn K mainGlobals "_law_cell_at" = some (some (.ref f8))) (l8 : K.lookup f8 = some ⟨oc8, od8, .func (PySem.W.fnOf "_law_cell_at" "_law_cell_at" (defArgs s_cell_at) (defBody s_cell_at) (defScope s_cell_at) .none kV8 dc8 pm8 an8 cd8 ct8), sl8⟩) (c8 : PySem.W.codeIn K cd8 "_law_cell_at" = true) (k8 : PySem.W.keepIn K (.ref f8) = true)
    (a9 : PySem.W.nsIn K mainGlobals "_law_many_by" = some (some (.ref f9))) (l9 : K.lookup f9 = some ⟨oc9, od9, .func (PySem.W.fnOf "_law_many_by" "_law_many_by" (defArgs s_many_by) (defBody s_many_by) (defScope s_many_by) .none kV9 dc9 pm9 an9 cd9 ct9), sl9⟩) (c9 : PySem.W.codeIn K cd9 "_law_many_by" = true) (k9 : PySem.W.keepIn K (.ref f9) = true)
    (a10 : PySem.W.nsIn K mainGlobals "_law_signs_by" = some (some (.ref f10))) (l10 : K.lookup f10 = some ⟨oc10, od10, .func (PySem.W.fnOf "_law_signs_by" "_law_signs_by" (defArgs s_signs_by) (defBody s_signs_by) (defScope s_signs_by) .none kV10 dc10 pm10 an10 cd10 ct10), sl10⟩) (c10 : PySem.W.codeIn K cd10 "_law_signs_by" = true) (k10 : PySem.W.keepIn K (.ref f10) = true)
    (a11 : PySem.W.nsIn K mainGlobals "check_signs" = some (some (.ref f11))) (l11 : K.lookup f11 = some ⟨oc11, od11, .func (PySem.W.fnOf "check_signs" "check_signs" (defArgs s_check_signs) (defBody s_check_signs) (defScope s_check_signs) .none kV11 dc11 pm11 an11 cd11 ct11), sl11⟩) (c11 : PySem.W.codeIn K cd11 "check_signs" = true) (k11 : PySem.W.keepIn K (.ref f11) = true)
    (a12 : PySem.W.findIn K (.ref ca_Book) "__init__" = some (some (.ref f12))) (i12 : PySem.W.isFn K (.ref f12) = true) (l12 : K.lookup f12 = some ⟨oc12, od12, .func (PySem.W.fnOf "__init__" "Book.__init__" (defArgs s_Book___init__) (defBody s_Book___init__) (defScope s_Book___init__) .none kV12 dc12 pm12 an12 cd12 ct12), sl12⟩) (c12 : PySem.W.codeIn K cd12 "Book.__init__" = true) (k12 : PySem.W.keepIn K (.ref f12) = true)
    (a13 : PySem.W.findIn K (.ref ca_Learner) "__init__" = some (some (.ref f13))) (i13 : PySem.W.isFn K (.ref f13) = true) (l13 : K.lookup f13 = some ⟨oc13, od13, .func (PySem.W.fnOf "__init__" "Learner.__init__" (defArgs s_Learner___init__) (defBody s_Learner___init__) (defScope s_Learner___init__) .none kV13 dc13 pm13 an13 cd13 ct13), sl13⟩) (c13 : PySem.W.codeIn K cd13 "Learner.__init__" = true) (k13 : PySem.W.keepIn K (.ref f13) = true)
    (a14 : PySem.W.findIn K (.ref ca_Learner) "_learn" = some (some (.ref f14))) (i14 : PySem.W.isFn K (.ref f14) = true) (l14 : K.lookup f14 = some ⟨oc14, od14, .func (PySem.W.fnOf "_learn" "Learner._learn" (defArgs s_Learner__learn) (defBody s_Learner__learn) (defScope s_Learner__learn) .none kV14 dc14 pm14 an14 cd14 ct14), sl14⟩) (c14 : PySem.W.codeIn K cd14 "Learner._learn" = true) (k14 : PySem.W.keepIn K (.ref f14) = true)
    (a15 : PySem.W.findIn K (.ref ca_Learner) "took" = some (some (.ref f15))) (i15 : PySem.W.isFn K (.ref f15) = true) (l15 : K.lookup f15 = some ⟨oc15, od15, .func (PySem.W.fnOf "took" "Learner.took" (defArgs s_Learner_took) (defBody s_Learner_took) (defScope s_Learner_took) .none kV15 dc15 pm15 an15 cd15 ct15), sl15⟩) (c15 : PySem.W.codeIn K cd15 "Learner.took" = true) (k15 : PySem.W.keepIn K (.ref f15) = true)
    (a16 : PySem.W.nsIn K mainGlobals "check_text" = some (some (.ref f16))) (l16 : K.lookup f16 = some ⟨oc16, od16, .func (PySem.W.fnOf "check_text" "check_text" (defArgs s_check_text) (defBody s_check_text) (defScope s_check_text) .none kV16 dc16 pm16 an16 cd16 ct16), sl16⟩) (c16 : PySem.W.codeIn K cd16 "check_text" = true) (k16 : PySem.W.keepIn K (.ref f16) = true)
    (a17 : PySem.W.findIn K (.ref ca_Packer) "__init__" = some (some (.ref f17))) (i17 : PySem.W.isFn K (.ref f17) = true) (l17 : K.lookup f17 = some ⟨oc17, od17, .func (PySem.W.fnOf "__init__" "Packer.__init__" (defArgs s_Packer___init__) (defBody s_Packer___init__) (defScope s_Packer___init__) .none kV17 dc17 pm17 an17 cd17 ct17), sl17⟩) (c17 : PySem.W.codeIn K cd17 "Packer.__init__" = true) (k17 : PySem.W.keepIn K (.ref f17) = true)
    (a18 : PySem.W.findIn K (.ref ca_Packer) "put" = some (some (.ref f18))) (i18 : PySem.W.isFn K (.ref f18) = true) (l18 : K.lookup f18 = some ⟨oc18, od18, .func (PySem.W.fnOf "put" "Packer.put" (defArgs s_Packer_put) (defBody s_Packer_put) (defScope s_Packer_put) .none kV18 dc18 pm18 an18 cd18 ct18), sl18⟩) (c18 : PySem.W.codeIn K cd18 "Packer.put" = true) (k18 : PySem.W.keepIn K (.ref f18) = true)
    (a19 : PySem.W.nsIn K mainGlobals "pack" = some (some (.ref f19))) (l19 : K.lookup f19 = some ⟨oc19, od19, .func (PySem.W.fnOf "pack" "pack" (defArgs s_pack) (defBody s_pack) (defScope s_pack) .none kV19 dc19 pm19 an19 cd19 ct19), sl19⟩) (c19 : PySem.W.codeIn K cd19 "pack" = true) (k19 : PySem.W.keepIn K (.ref f19) = true)
    (a20 : PySem.W.nsIn K mainGlobals "check_bits" = some (some (.ref f20))) (l20 : K.lookup f20 = some ⟨oc20, od20, .func (PySem.W.fnOf "check_bits" "check_bits" (defArgs s_check_bits) (defBody s_check_bits) (defScope s_check_bits) .none kV20 dc20 pm20 an20 cd20 ct20), sl20⟩) (c20 : PySem.W.codeIn K cd20 "check_bits" = true) (k20 : PySem.W.keepIn K (.ref f20) = true)
    (a21 : PySem.W.findIn K (.ref ca_Unpacker) "__init__" = some (some (.ref f21))) (i21 : PySem.W.isFn K (.ref f21) = true) (l21 : K.lookup f21 = some ⟨oc21, od21, .func (PySem.W.fnOf "__init__" "Unpacker.__init__" (defArgs s_Unpacker___init__) (defBody s_Unpacker___init__) (defScope s_Unpacker___init__) .none kV21 dc21 pm21 an21 cd21 ct21), sl21⟩) (c21 : PySem.W.codeIn K cd21 "Unpacker.__init__" = true) (k21 : PySem.W.keepIn K (.ref f21) = true)
    (a22 : PySem.W.findIn K (.ref ca_Learner) "held" = some (some (.ref f22))) (i22 : PySem.W.isFn K (.ref f22) = true) (l22 : K.lookup f22 = some ⟨oc22, od22, .func (PySem.W.fnOf "held" "Learner.held" (defArgs s_Learner_held) (defBody s_Learner_held) (defScope s_Learner_held) .none kV22 dc22 pm22 an22 cd22 ct22), sl22⟩) (c22 : PySem.W.codeIn K cd22 "Learner.held" = true) (k22 : PySem.W.keepIn K (.ref f22) = true)
    (a23 : PySem.W.findIn K (.ref ca_Unpacker) "_arrive" = some (some (.ref f23))) (i23 : PySem.W.isFn K (.ref f23) = true) (l23 : K.lookup f23 = some ⟨oc23, od23, .func (PySem.W.fnOf "_arrive" "Unpacker._arrive" (defArgs s_Unpacker__arrive) (defBody s_Unpacker__arrive) (defScope s_Unpacker__arrive) .none kV23 dc23 pm23 an23 cd23 ct23), sl23⟩) (c23 : PySem.W.codeIn K cd23 "Unpacker._arrive" = true) (k23 : PySem.W.keepIn K (.ref f23) = true)
    (a24 : PySem.W.findIn K (.ref ca_Learner) "go_back" = some (some (.ref f24))) (i24 : PySem.W.isFn K (.ref f24) = true) (l24 : K.lookup f24 = some ⟨oc24, od24, .func (PySem.W.fnOf "go_back" "Learner.go_back" (defArgs s_Learner_go_back) (defBody s_Learner_go_back) (defScope s_Learner_go_back) .none kV24 dc24 pm24 an24 cd24 ct24), sl24⟩) (c24 : PySem.W.codeIn K cd24 "Learner.go_back" = true) (k24 : PySem.W.keepIn K (.ref f24) = true)
    (a25 : PySem.W.findIn K (.ref ca_Unpacker) "_follow" = some (some (.ref f25))) (i25 : PySem.W.isFn K (.ref f25) = true) (l25 : K.lookup f25 = some ⟨oc25, od25, .func (PySem.W.fnOf "_follow" "Unpacker._follow" (defArgs s_Unpacker__follow) (defBody s_Unpacker__follow) (defScope s_Unpacker__follow) .none kV25 dc25 pm25 an25 cd25 ct25), sl25⟩) (c25 : PySem.W.codeIn K cd25 "Unpacker._follow" = true) (k25 : PySem.W.keepIn K (.ref f25) = true)
    (a26 : PySem.W.findIn K (.ref ca_Unpacker) "put" = some (some (.ref f26))) (i26 : PySem.W.isFn K (.ref f26) = true) (l26 : K.lookup f26 = some ⟨oc26, od26, .func (PySem.W.fnOf "put" "Unpacker.put" (defArgs s_Unpacker_put) (defBody s_Unpacker_put) (defScope s_Unpacker_put) .none kV26 dc26 pm26 an26 cd26 ct26), sl26⟩) (c26 : PySem.W.codeIn K cd26 "Unpacker.put" = true) (k26 : PySem.W.keepIn K (.ref f26) = true)
    (a27 : PySem.W.nsIn K mainGlobals "unpack" = some (some (.ref f27))) (l27 : K.lookup f27 = some ⟨oc27, od27, .func (PySem.W.fnOf "unpack" "unpack" (defArgs s_unpack) (defBody s_unpack) (defScope s_unpack) .none kV27 dc27 pm27 an27 cd27 ct27), sl27⟩) (c27 : PySem.W.codeIn K cd27 "unpack" = true) (k27 : PySem.W.keepIn K (.ref f27) = true)
    (a28 : PySem.W.nsIn K mainGlobals "is_count" = some (some (.ref f28))) (l28 : K.lookup f28 = some ⟨oc28, od28, .func (PySem.W.fnOf "is_count" "is_count" (defArgs s_is_count) (defBody s_is_count) (defScope s_is_count) .none kV28 dc28 pm28 an28 cd28 ct28), sl28⟩) (c28 : PySem.W.codeIn K cd28 "is_count" = true) (k28 : PySem.W.keepIn K (.ref f28) = true)
    (a29 : PySem.W.nsIn K mainGlobals "read" = some (some (.ref f29))) (l29 : K.lookup f29 = some ⟨oc29, od29, .func (PySem.W.fnOf "read" "read" (defArgs s_read) (defBody s_read) (defScope s_read) .none kV29 dc29 pm29 an29 cd29 ct29), sl29⟩) (c29 : PySem.W.codeIn K cd29 "read" = true) (k29 : PySem.W.keepIn K (.ref f29) = true)
    (a30 : PySem.W.nsIn K mainGlobals "written" = some (some (.ref f30))) (l30 : K.lookup f30 = some ⟨oc30, od30, .func (PySem.W.fnOf "written" "written" (defArgs s_written) (defBody s_written) (defScope s_written) .none kV30 dc30 pm30 an30 cd30 ct30), sl30⟩) (c30 : PySem.W.codeIn K cd30 "written" = true) (k30 : PySem.W.keepIn K (.ref f30) = true)
    (a31 : PySem.W.nsIn K mainGlobals "_law_kinds" = some (some (.ref f31))) (l31 : K.lookup f31 = some ⟨oc31, od31, .func (PySem.W.fnOf "_law_kinds" "_law_kinds" (defArgs s_kinds) (defBody s_kinds) (defScope s_kinds) .none kV31 dc31 pm31 an31 cd31 ct31), sl31⟩) (c31 : PySem.W.codeIn K cd31 "_law_kinds" = true) (k31 : PySem.W.keepIn K (.ref f31) = true)
    (a32 : PySem.W.nsIn K mainGlobals "_law_told" = some (some (.ref f32))) (l32 : K.lookup f32 = some ⟨oc32, od32, .func (PySem.W.fnOf "_law_told" "_law_told" (defArgs s_told) (defBody s_told) (defScope s_told) .none kV32 dc32 pm32 an32 cd32 ct32), sl32⟩) (c32 : PySem.W.codeIn K cd32 "_law_told" = true) (k32 : PySem.W.keepIn K (.ref f32) = true)
    (a33 : PySem.W.nsIn K mainGlobals "_law_bad_count" = some (some (.ref f33))) (l33 : K.lookup f33 = some ⟨oc33, od33, .func (PySem.W.fnOf "_law_bad_count" "_law_bad_count" (defArgs s_bad_count) (defBody s_bad_count) (defScope s_bad_count) .none kV33 dc33 pm33 an33 cd33 ct33), sl33⟩) (c33 : PySem.W.codeIn K cd33 "_law_bad_count" = true) (k33 : PySem.W.keepIn K (.ref f33) = true)
    (a34 : PySem.W.nsIn K mainGlobals "_law_text_by" = some (some (.ref f34))) (l34 : K.lookup f34 = some ⟨oc34, od34, .func (PySem.W.fnOf "_law_text_by" "_law_text_by" (defArgs s_text_by) (defBody s_text_by) (defScope s_text_by) .none kV34 dc34 pm34 an34 cd34 ct34), sl34⟩) (c34 : PySem.W.codeIn K cd34 "_law_text_by" = true) (k34 : PySem.W.keepIn K (.ref f34) = true)
    (a35 : PySem.W.nsIn K mainGlobals "_law_book_by" = some (some (.ref f35))) (l35 : K.lookup f35 = some ⟨oc35, od35, .func (PySem.W.fnOf "_law_book_by" "_law_book_by" (defArgs s_book_by) (defBody s_book_by) (defScope s_book_by) .none kV35 dc35 pm35 an35 cd35 ct35), sl35⟩) (c35 : PySem.W.codeIn K cd35 "_law_book_by" = true) (k35 : PySem.W.keepIn K (.ref f35) = true)
    (a36 : PySem.W.nsIn K mainGlobals "law" = some (some (.ref f36))) (l36 : K.lookup f36 = some ⟨oc36, od36, .func (PySem.W.fnOf "law" "law" (defArgs s_law) (defBody s_law) (defScope s_law) .none kV36 dc36 pm36 an36 cd36 ct36), sl36⟩) (c36 : PySem.W.codeIn K cd36 "law" = true) (k36 : PySem.W.keepIn K (.ref f36) = true)
    (zb_ValueError : PySem.W.nsIn K mainGlobals "ValueError" = some none)
    (zb_bool : PySem.W.nsIn K mainGlobals "bool" = some none)
    (zb_enumerate : PySem.W.nsIn K mainGlobals "enumerate" = some none)
    (zb_int : PySem.W.nsIn K mainGlobals "int" = some none)
    (zb_isinstance : PySem.W.nsIn K mainGlobals "isinstance" = some none)
    (zb_len : PySem.W.nsIn K mainGlobals "len" = some none)
    (zb_list : PySem.W.nsIn K mainGlobals "list" = some none)
    (zb_max : PySem.W.nsIn K mainGlobals "max" = some none)
    (zb_range : PySem.W.nsIn K mainGlobals "range" = some none)
    (zb_reversed : PySem.W.nsIn K mainGlobals "reversed" = some none)
    (zb_str : PySem.W.nsIn K mainGlobals "str" = some none)
    (zb_sum : PySem.W.nsIn K mainGlobals "sum" = some none)
    (zb_zip : PySem.W.nsIn K mainGlobals "zip" = some none)
    (pg_Book : PySem.W.plainGet K ca_Book Str.empty = true)
    (hd_Book : PySem.W.hasDictIn K ca_Book = true)
    (po_Book : PySem.W.plainOver K ca_Book = true)
    (sa_Book : PySem.W.findIn K (.ref ca_Book) "__setattr__" = some (some (.builtin "object.__setattr__")))
    (pg_Learner : PySem.W.plainGet K ca_Learner Str.empty = true)
    (hd_Learner : PySem.W.hasDictIn K ca_Learner = true)
    (po_Learner : PySem.W.plainOver K ca_Learner = true)
    (sa_Learner : PySem.W.findIn K (.ref ca_Learner) "__setattr__" = some (some (.builtin "object.__setattr__")))
    (pg_Packer : PySem.W.plainGet K ca_Packer Str.empty = true)
    (hd_Packer : PySem.W.hasDictIn K ca_Packer = true)
    (po_Packer : PySem.W.plainOver K ca_Packer = true)
    (sa_Packer : PySem.W.findIn K (.ref ca_Packer) "__setattr__" = some (some (.builtin "object.__setattr__")))
    (pg_Unpacker : PySem.W.plainGet K ca_Unpacker Str.empty = true)
    (hd_Unpacker : PySem.W.hasDictIn K ca_Unpacker = true)
    (po_Unpacker : PySem.W.plainOver K ca_Unpacker = true)
    (sa_Unpacker : PySem.W.findIn K (.ref ca_Unpacker) "__setattr__" = some (some (.builtin "object.__setattr__")))
    (zn_Book_cap : PySem.W.findIn K (.ref ca_Book) "cap" = some none)
    (zn_Book_signs : PySem.W.findIn K (.ref ca_Book) "signs" = some none)
    (zn_Book_size : PySem.W.findIn K (.ref ca_Book) "size" = some none)
    (zn_Learner__book : PySem.W.findIn K (.ref ca_Learner) "_book" = some none)
    (zn_Learner_shares : PySem.W.findIn K (.ref ca_Learner) "shares" = some none)
    (zn_Learner_waits : PySem.W.findIn K (.ref ca_Learner) "waits" = some none)
    (zn_Learner_words : PySem.W.findIn K (.ref ca_Learner) "words" = some none)
    (zn_Packer__signs : PySem.W.findIn K (.ref ca_Packer) "_signs" = some none)
    (zn_Packer_learner : PySem.W.findIn K (.ref ca_Packer) "learner" = some none)
    (zn_Unpacker__signs : PySem.W.findIn K (.ref ca_Unpacker) "_signs" = some none)
    (zn_Unpacker__way : PySem.W.findIn K (.ref ca_Unpacker) "_way" = some none)
    (zn_Unpacker_learner : PySem.W.findIn K (.ref ca_Unpacker) "learner" = some none)
    (zn_Unpacker_left : PySem.W.findIn K (.ref ca_Unpacker) "left" = some none)
    (zg_GREATEST_CAP : PySem.W.nsIn K mainGlobals "GREATEST_CAP" = some (some (.int 1000000 tk_GREATEST_CAP)))
    (zg_GREATEST_SHARE : PySem.W.nsIn K mainGlobals "GREATEST_SHARE" = some (some (.int 1000000000000 tk_GREATEST_SHARE)))
    (zg_LONGEST_BLOCK : PySem.W.nsIn K mainGlobals "LONGEST_BLOCK" = some (some (.int 99 tk_LONGEST_BLOCK)))
    (zg_LONGEST_TEXT : PySem.W.nsIn K mainGlobals "LONGEST_TEXT" = some (some (.int 2000 tk_LONGEST_TEXT)))
    (zg_MOST_FIGURES : PySem.W.nsIn K mainGlobals "MOST_FIGURES" = some (some (.int 4 tk_MOST_FIGURES)))
    (zg_MOST_SHARES : PySem.W.nsIn K mainGlobals "MOST_SHARES" = some (some (.int 40 tk_MOST_SHARES)))
    (zg_heapify : PySem.W.nsIn K mainGlobals "heapify" = some (some (.builtin "_heapq.heapify")))
    (zg_heappop : PySem.W.nsIn K mainGlobals "heappop" = some (some (.builtin "_heapq.heappop")))
    (zg_heappush : PySem.W.nsIn K mainGlobals "heappush" = some (some (.builtin "_heapq.heappush")))
    (zx1_BadBit : PySem.W.excIn K ca_BadBit [.type "ValueError", .type "Exception", .type "BaseException", .type "object"] "ValueError.__new__" = true)
    (zx2_BadBit : PySem.W.keepIn K (.ref ca_BadBit) = true)
    (zx3_BadBit : PySem.W.subIn K (.ref ca_BadBit) (.type "BaseException") = some true)
    (zx4_BadBit : PySem.W.typeIn K (.ref ca_BadBit) = some (.type "type"))
    (zx1_BadCount : PySem.W.excIn K ca_BadCount [.type "ValueError", .type "Exception", .type "BaseException", .type "object"] "ValueError.__new__" = true)
    (zx2_BadCount : PySem.W.keepIn K (.ref ca_BadCount) = true)
    (zx3_BadCount : PySem.W.subIn K (.ref ca_BadCount) (.type "BaseException") = some true)
    (zx4_BadCount : PySem.W.typeIn K (.ref ca_BadCount) = some (.type "type"))
    (zx1_BadLine : PySem.W.excIn K ca_BadLine [.type "ValueError", .type "Exception", .type "BaseException", .type "object"] "ValueError.__new__" = true)
    (zx2_BadLine : PySem.W.keepIn K (.ref ca_BadLine) = true)
    (zx3_BadLine : PySem.W.subIn K (.ref ca_BadLine) (.type "BaseException") = some true)
    (zx4_BadLine : PySem.W.typeIn K (.ref ca_BadLine) = some (.type "type"))
    (zx1_Loose : PySem.W.excIn K ca_Loose [.type "ValueError", .type "Exception", .type "BaseException", .type "object"] "ValueError.__new__" = true)
    (zx2_Loose : PySem.W.keepIn K (.ref ca_Loose) = true)
    (zx3_Loose : PySem.W.subIn K (.ref ca_Loose) (.type "BaseException") = some true)
    (zx4_Loose : PySem.W.typeIn K (.ref ca_Loose) = some (.type "type"))
    (zx1_Short : PySem.W.excIn K ca_Short [.type "ValueError", .type "Exception", .type "BaseException", .type "object"] "ValueError.__new__" = true)
    (zx2_Short : PySem.W.keepIn K (.ref ca_Short) = true)
    (zx3_Short : PySem.W.subIn K (.ref ca_Short) (.type "BaseException") = some true)
    (zx4_Short : PySem.W.typeIn K (.ref ca_Short) = some (.type "type"))
    (zs_BadBit_BadBit : PySem.W.subIn K (.ref ca_BadBit) (.ref ca_BadBit) = some true)
    (zh_BadBit : PySem.W.hasDictIn K ca_BadBit = true)
    (zs_BadBit_BadCount : PySem.W.subIn K (.ref ca_BadBit) (.ref ca_BadCount) = some false)
    (zh_BadCount : PySem.W.hasDictIn K ca_BadCount = true)
    (zs_BadBit_BadLine : PySem.W.subIn K (.ref ca_BadBit) (.ref ca_BadLine) = some false)
    (zh_BadLine : PySem.W.hasDictIn K ca_BadLine = true)
    (zs_BadCount_BadCount : PySem.W.subIn K (.ref ca_BadCount) (.ref ca_BadCount) = some true)
    (zs_BadCount_BadLine : PySem.W.subIn K (.ref ca_BadCount) (.ref ca_BadLine) = some false)
    (zs_BadLine_BadLine : PySem.W.subIn K (.ref ca_BadLine) (.ref ca_BadLine) = some true)
    (zs_Loose_BadBit : PySem.W.subIn K (.ref ca_Loose) (.ref ca_BadBit) = some false)
    (zs_Loose_BadCount : PySem.W.subIn K (.ref ca_Loose) (.ref ca_BadCount) = some false)
    (zs_Loose_BadLine : PySem.W.subIn K (.ref ca_Loose) (.ref ca_BadLine) = some false)
    (zs_Loose_Loose : PySem.W.subIn K (.ref ca_Loose) (.ref ca_Loose) = some true)
    (zh_Loose : PySem.W.hasDictIn K ca_Loose = true)
    (zs_Short_BadBit : PySem.W.subIn K (.ref ca_Short) (.ref ca_BadBit) = some false)
    (zs_Short_BadCount : PySem.W.subIn K (.ref ca_Short) (.ref ca_BadCount) = some false)
    (zs_Short_BadLine : PySem.W.subIn K (.ref ca_Short) (.ref ca_BadLine) = some false)
    (zs_Short_Loose : PySem.W.subIn K (.ref ca_Short) (.ref ca_Loose) = some false)
    (zs_Short_Short : PySem.W.subIn K (.ref ca_Short) (.ref ca_Short) = some true)
    (zh_Short : PySem.W.hasDictIn K ca_Short = true)
    (zq1_BadBit : PySem.W.findIn K (.ref ca_BadBit) "__getattribute__" = some (some (.builtin "BaseException.__getattribute__")))
    (zq2_BadBit : PySem.W.findIn K (.ref ca_BadBit) "__getattr__" = some none)
    (zk1_BadBit : PySem.W.findIn K (.ref ca_BadBit) "__class__" = some (some (.builtin "object.__class__")))
    (zk2_BadBit : PySem.W.specialIn K (.builtin "object.__class__") "__get__" = some (some (.builtin "getset_descriptor.__get__")))
    (zk3_BadBit : PySem.W.takesIn K (.builtin "object.__class__") = some true)
    (zk4_BadBit : PySem.W.mroIn K ca_BadBit (.type "object") = some true)
    (zi_BadBit_BadBook : PySem.W.kitOne K (.ref ca_BadBit) (.ref ca_BadBook) = some false)
    (zi_BadBit_BadShares : PySem.W.kitOne K (.ref ca_BadBit) (.ref ca_BadShares) = some false)
    (zi_BadBit_BadSign : PySem.W.kitOne K (.ref ca_BadBit) (.ref ca_BadSign) = some false)
    (zi_BadBit_BadCount : PySem.W.kitOne K (.ref ca_BadBit) (.ref ca_BadCount) = some false)
    (zi_BadBit_Loose : PySem.W.kitOne K (.ref ca_BadBit) (.ref ca_Loose) = some false)
    (zi_BadBit_Short : PySem.W.kitOne K (.ref ca_BadBit) (.ref ca_Short) = some false)
    (zi_BadBit_BadLine : PySem.W.kitOne K (.ref ca_BadBit) (.ref ca_BadLine) = some false)
    (zi_BadBit_PackError : PySem.W.kitOne K (.ref ca_BadBit) (.ref ca_PackError) = some true)
    (zv_BadBit : PySem.W.kitOne K (.ref ca_BadBit) (.type "ValueError") = some true)
    (zq1_BadCount : PySem.W.findIn K (.ref ca_BadCount) "__getattribute__" = some (some (.builtin "BaseException.__getattribute__")))
    (zq2_BadCount : PySem.W.findIn K (.ref ca_BadCount) "__getattr__" = some none)
    (zk1_BadCount : PySem.W.findIn K (.ref ca_BadCount) "__class__" = some (some (.builtin "object.__class__")))
    (zk2_BadCount : PySem.W.specialIn K (.builtin "object.__class__") "__get__" = some (some (.builtin "getset_descriptor.__get__")))
    (zk3_BadCount : PySem.W.takesIn K (.builtin "object.__class__") = some true)
    (zk4_BadCount : PySem.W.mroIn K ca_BadCount (.type "object") = some true)
    (zi_BadCount_BadBook : PySem.W.kitOne K (.ref ca_BadCount) (.ref ca_BadBook) = some false)
    (zi_BadCount_BadShares : PySem.W.kitOne K (.ref ca_BadCount) (.ref ca_BadShares) = some false)
    (zi_BadCount_BadSign : PySem.W.kitOne K (.ref ca_BadCount) (.ref ca_BadSign) = some false)
    (zi_BadCount_BadBit : PySem.W.kitOne K (.ref ca_BadCount) (.ref ca_BadBit) = some false)
    (zi_BadCount_Loose : PySem.W.kitOne K (.ref ca_BadCount) (.ref ca_Loose) = some false)
    (zi_BadCount_Short : PySem.W.kitOne K (.ref ca_BadCount) (.ref ca_Short) = some false)
    (zi_BadCount_BadLine : PySem.W.kitOne K (.ref ca_BadCount) (.ref ca_BadLine) = some false)
    (zi_BadCount_PackError : PySem.W.kitOne K (.ref ca_BadCount) (.ref ca_PackError) = some true)
    (zv_BadCount : PySem.W.kitOne K (.ref ca_BadCount) (.type "ValueError") = some true)
    (zq1_BadLine : PySem.W.findIn K (.ref ca_BadLine) "__getattribute__" = some (some (.builtin "BaseException.__getattribute__")))
    (zq2_BadLine : PySem.W.findIn K (.ref ca_BadLine) "__getattr__" = some none)
    (zk1_BadLine : PySem.W.findIn K (.ref ca_BadLine) "__class__" = some (some (.builtin "object.__class__")))
    (zk2_BadLine : PySem.W.specialIn K (.builtin "object.__class__") "__get__" = some (some (.builtin "getset_descriptor.__get__")))
    (zk3_BadLine : PySem.W.takesIn K (.builtin "object.__class__") = some true)
    (zk4_BadLine : PySem.W.mroIn K ca_BadLine (.type "object") = some true)
    (zi_BadLine_BadBook : PySem.W.kitOne K (.ref ca_BadLine) (.ref ca_BadBook) = some false)
    (zi_BadLine_BadShares : PySem.W.kitOne K (.ref ca_BadLine) (.ref ca_BadShares) = some false)
    (zi_BadLine_BadSign : PySem.W.kitOne K (.ref ca_BadLine) (.ref ca_BadSign) = some false)
    (zi_BadLine_BadCount : PySem.W.kitOne K (.ref ca_BadLine) (.ref ca_BadCount) = some false)
    (zi_BadLine_BadBit : PySem.W.kitOne K (.ref ca_BadLine) (.ref ca_BadBit) = some false)
    (zi_BadLine_Loose : PySem.W.kitOne K (.ref ca_BadLine) (.ref ca_Loose) = some false)
    (zi_BadLine_Short : PySem.W.kitOne K (.ref ca_BadLine) (.ref ca_Short) = some false)
    (zi_BadLine_PackError : PySem.W.kitOne K (.ref ca_BadLine) (.ref ca_PackError) = some true)
    (zv_BadLine : PySem.W.kitOne K (.ref ca_BadLine) (.type "ValueError") = some true)
    (zq1_Loose : PySem.W.findIn K (.ref ca_Loose) "__getattribute__" = some (some (.builtin "BaseException.__getattribute__")))
    (zq2_Loose : PySem.W.findIn K (.ref ca_Loose) "__getattr__" = some none)
    (zk1_Loose : PySem.W.findIn K (.ref ca_Loose) "__class__" = some (some (.builtin "object.__class__")))
    (zk2_Loose : PySem.W.specialIn K (.builtin "object.__class__") "__get__" = some (some (.builtin "getset_descriptor.__get__")))
    (zk3_Loose : PySem.W.takesIn K (.builtin "object.__class__") = some true)
    (zk4_Loose : PySem.W.mroIn K ca_Loose (.type "object") = some true)
    (zi_Loose_BadBook : PySem.W.kitOne K (.ref ca_Loose) (.ref ca_BadBook) = some false)
    (zi_Loose_BadShares : PySem.W.kitOne K (.ref ca_Loose) (.ref ca_BadShares) = some false)
    (zi_Loose_BadSign : PySem.W.kitOne K (.ref ca_Loose) (.ref ca_BadSign) = some false)
    (zi_Loose_BadCount : PySem.W.kitOne K (.ref ca_Loose) (.ref ca_BadCount) = some false)
    (zi_Loose_BadBit : PySem.W.kitOne K (.ref ca_Loose) (.ref ca_BadBit) = some false)
    (zi_Loose_Short : PySem.W.kitOne K (.ref ca_Loose) (.ref ca_Short) = some false)
    (zi_Loose_BadLine : PySem.W.kitOne K (.ref ca_Loose) (.ref ca_BadLine) = some false)
    (zi_Loose_PackError : PySem.W.kitOne K (.ref ca_Loose) (.ref ca_PackError) = some true)
    (zv_Loose : PySem.W.kitOne K (.ref ca_Loose) (.type "ValueError") = some true)
    (zq1_Short : PySem.W.findIn K (.ref ca_Short) "__getattribute__" = some (some (.builtin "BaseException.__getattribute__")))
    (zq2_Short : PySem.W.findIn K (.ref ca_Short) "__getattr__" = some none)
    (zk1_Short : PySem.W.findIn K (.ref ca_Short) "__class__" = some (some (.builtin "object.__class__")))
    (zk2_Short : PySem.W.specialIn K (.builtin "object.__class__") "__get__" = some (some (.builtin "getset_descriptor.__get__")))
    (zk3_Short : PySem.W.takesIn K (.builtin "object.__class__") = some true)
    (zk4_Short : PySem.W.mroIn K ca_Short (.type "object") = some true)
    (zi_Short_BadBook : PySem.W.kitOne K (.ref ca_Short) (.ref ca_BadBook) = some false)
    (zi_Short_BadShares : PySem.W.kitOne K (.ref ca_Short) (.ref ca_BadShares) = some false)
    (zi_Short_BadSign : PySem.W.kitOne K (.ref ca_Short) (.ref ca_BadSign) = some false)
    (zi_Short_BadCount : PySem.W.kitOne K (.ref ca_Short) (.ref ca_BadCount) = some false)
    (zi_Short_BadBit : PySem.W.kitOne K (.ref ca_Short) (.ref ca_BadBit) = some false)
    (zi_Short_Loose : PySem.W.kitOne K (.ref ca_Short) (.ref ca_Loose) = some false)
    (zi_Short_BadLine : PySem.W.kitOne K (.ref ca_Short) (.ref ca_BadLine) = some false)
    (zi_Short_PackError : PySem.W.kitOne K (.ref ca_Short) (.ref ca_PackError) = some true)
    (zv_Short : PySem.W.kitOne K (.ref ca_Short) (.type "ValueError") = some true)
    (mk_Book : PySem.W.makesIn K ca_Book = true)
    (kc_Book : PySem.W.keepIn K (.ref ca_Book) = true)
    (mk_Learner : PySem.W.makesIn K ca_Learner = true)
    (kc_Learner : PySem.W.keepIn K (.ref ca_Learner) = true)
    (mk_Packer : PySem.W.makesIn K ca_Packer = true)
    (kc_Packer : PySem.W.keepIn K (.ref ca_Packer) = true)
    (mk_Unpacker : PySem.W.makesIn K ca_Unpacker = true)
    (kc_Unpacker : PySem.W.keepIn K (.ref ca_Unpacker) = true) :
    ∃ fd : FuncData, (∀ (s : Shared) (v : Value), BindsTo s fd ⟨[v], []⟩ [("_law_script", v)]) ∧ ∀ base : Heap, K.In base → base.Ns mainGlobals mg → FnOk l.prog w K mg base CX0 13 fa fd ["_law_script"] (sp_law K) := by
  have e := hfa.symm.trans (PySem.W.mg_of X G a36)
  cases e
  have hc_BadBit : mg "BadBit" = some (.ref ca_BadBit) := PySem.W.mg_of X G zc_BadBit
  have ec_BadBit : cadr mg "BadBit" = ca_BadBit := cadr_of hc_BadBit
  have hc_BadBook : mg "BadBook" = some (.ref ca_BadBook) := PySem.W.mg_of X G zc_BadBook
  have ec_BadBook : cadr mg "BadBook" = ca_BadBook := cadr_of hc_BadBook
  have hc_BadCount : mg "BadCount" = some (.ref ca_BadCount) := PySem.W.mg_of X G zc_BadCount
  have ec_BadCount : cadr mg "BadCount" = ca_BadCount := cadr_of hc_BadCount
  have hc_BadLine : mg "BadLine" = some (.ref ca_BadLine) := PySem.W.mg_of X G zc_BadLine
  have ec_BadLine : cadr mg "BadLine" = ca_BadLine := cadr_of hc_BadLine
  have hc_BadShares : mg "BadShares" = some (.ref ca_BadShares) := PySem.W.mg_of X G zc_BadShares
  have ec_BadShares : cadr mg "BadShares" = ca_BadShares := cadr_of hc_BadShares
  have hc_BadSign : mg "BadSign" = some (.ref ca_BadSign) := PySem.W.mg_of X G zc_BadSign
  have ec_BadSign : cadr mg "BadSign" = ca_BadSign := cadr_of hc_BadSign
  have hc_Book : mg "Book" = some (.ref ca_Book) := PySem.W.mg_of X G zc_Book
  have ec_Book : cadr mg "Book" = ca_Book := cadr_of hc_Book
  have hc_Learner : mg "Learner" = some (.ref ca_Learner) := PySem.W.mg_of X G zc_Learner
  have ec_Learner : cadr mg "Learner" = ca_Learner := cadr_of hc_Learner
  have hc_Loose : mg "Loose" = some (.ref ca_Loose) := PySem.W.mg_of X G zc_Loose
  have ec_Loose : cadr mg "Loose" = ca_Loose := cadr_of hc_Loose
  have hc_PackError : mg "PackError" = some (.ref ca_PackError) := PySem.W.mg_of X G zc_PackError
  have ec_PackError : cadr mg "PackError" = ca_PackError := cadr_of hc_PackError
  have hc_Packer : mg "Packer" = some (.ref ca_Packer) := PySem.W.mg_of X G zc_Packer
  have ec_Packer : cadr mg "Packer" = ca_Packer := cadr_of hc_Packer
  have hc_Short : mg "Short" = some (.ref ca_Short) := PySem.W.mg_of X G zc_Short
  have ec_Short : cadr mg "Short" = ca_Short := cadr_of hc_Short
  have hc_Unpacker : mg "Unpacker" = some (.ref ca_Unpacker) := PySem.W.mg_of X G zc_Unpacker
  have ec_Unpacker : cadr mg "Unpacker" = ca_Unpacker := cadr_of hc_Unpacker
  have cl_Book : Cls K (cadr mg "Book") := by
    rw [ec_Book]
    exact ⟨pg_Book, hd_Book, po_Book, sa_Book⟩
  have cl_Learner : Cls K (cadr mg "Learner") := by
    rw [ec_Learner]
    exact ⟨pg_Learner, hd_Learner, po_Learner, sa_Learner⟩
  have cl_Packer : Cls K (cadr mg "Packer") := by
    rw [ec_Packer]
    exact ⟨pg_Packer, hd_Packer, po_Packer, sa_Packer⟩
  have cl_Unpacker : Cls K (cadr mg "Unpacker") := by
    rw [ec_Unpacker]
    exact ⟨pg_Unpacker, hd_Unpacker, po_Unpacker, sa_Unpacker⟩
  have T : Txt K mg := ⟨PySem.W.mg_none_of X G zb_ValueError, PySem.W.mg_none_of X G zb_bool, PySem.W.mg_none_of X G zb_enumerate, PySem.W.mg_none_of X G zb_int, PySem.W.mg_none_of X G zb_isinstance, PySem.W.mg_none_of X G zb_len, PySem.W.mg_none_of X G zb_list, PySem.W.mg_none_of X G zb_max, PySem.W.mg_none_of X G zb_range, PySem.W.mg_none_of X G zb_reversed, PySem.W.mg_none_of X G zb_str, PySem.W.mg_none_of X G zb_sum, PySem.W.mg_none_of X G zb_zip, cl_Book, cl_Learner, cl_Packer, cl_Unpacker, (by rw [ec_BadBit]; exact hc_BadBit), (by rw [ec_BadBook]; exact hc_BadBook), (by rw [ec_BadCount]; exact hc_BadCount), (by rw [ec_BadLine]; exact hc_BadLine), (by rw [ec_BadShares]; exact hc_BadShares), (by rw [ec_BadSign]; exact hc_BadSign), (by rw [ec_Loose]; exact hc_Loose), (by rw [ec_PackError]; exact hc_PackError), (by rw [ec_Short]; exact hc_Short), (by rw [ec_Book]; exact zn_Book_cap), (by rw [ec_Book]; exact zn_Book_signs), (by rw [ec_Book]; exact zn_Book_size), (by rw [ec_Learner]; exact zn_Learner__book), (by rw [ec_Learner]; exact zn_Learner_shares), (by rw [ec_Learner]; exact zn_Learner_waits), (by rw [ec_Learner]; exact zn_Learner_words), (by rw [ec_Packer]; exact zn_Packer__signs), (by rw [ec_Packer]; exact zn_Packer_learner), (by rw [ec_Unpacker]; exact zn_Unpacker__signs), (by rw [ec_Unpacker]; exact zn_Unpacker__way), (by rw [ec_Unpacker]; exact zn_Unpacker_learner), (by rw [ec_Unpacker]; exact zn_Unpacker_left), ⟨_, PySem.W.mg_of X G zg_GREATEST_CAP, ⟨_, rfl⟩⟩, ⟨_, PySem.W.mg_of X G zg_GREATEST_SHARE, ⟨_, rfl⟩⟩, ⟨_, PySem.W.mg_of X G zg_LONGEST_BLOCK, ⟨_, rfl⟩⟩, ⟨_, PySem.W.mg_of X G zg_LONGEST_TEXT, ⟨_, rfl⟩⟩, ⟨_, PySem.W.mg_of X G zg_MOST_FIGURES, ⟨_, rfl⟩⟩, ⟨_, PySem.W.mg_of X G zg_MOST_SHARES, ⟨_, rfl⟩⟩, PySem.W.mg_of X G zg_heapify, PySem.W.mg_of X G zg_heappop, PySem.W.mg_of X G zg_heappush, ⟨by rw [ec_BadBit]; exact hc_BadBit, by rw [ec_BadBit]; exact zx1_BadBit, by rw [ec_BadBit]; exact zx2_BadBit, by rw [ec_BadBit]; exact zx3_BadBit, by rw [ec_BadBit]; exact zx4_BadBit⟩, ⟨by rw [ec_BadCount]; exact hc_BadCount, by rw [ec_BadCount]; exact zx1_BadCount, by rw [ec_BadCount]; exact zx2_BadCount, by rw [ec_BadCount]; exact zx3_BadCount, by rw [ec_BadCount]; exact zx4_BadCount⟩, ⟨by rw [ec_BadLine]; exact hc_BadLine, by rw [ec_BadLine]; exact zx1_BadLine, by rw [ec_BadLine]; exact zx2_BadLine, by rw [ec_BadLine]; exact zx3_BadLine, by rw [ec_BadLine]; exact zx4_BadLine⟩, ⟨by rw [ec_Loose]; exact hc_Loose, by rw [ec_Loose]; exact zx1_Loose, by rw [ec_Loose]; exact zx2_Loose, by rw [ec_Loose]; exact zx3_Loose, by rw [ec_Loose]; exact zx4_Loose⟩, ⟨by rw [ec_Short]; exact hc_Short, by rw [ec_Short]; exact zx1_Short, by rw [ec_Short]; exact zx2_Short, by rw [ec_Short]; exact zx3_Short, by rw [ec_Short]; exact zx4_Short⟩, (by rw [ec_BadBit]; exact PySem.W.exm_ref zx3_BadBit zh_BadBit zx4_BadBit zs_BadBit_BadBit), (by rw [ec_BadBit, ec_BadCount]; exact PySem.W.exm_ref zx3_BadCount zh_BadCount zx4_BadCount zs_BadBit_BadCount), (by rw [ec_BadBit, ec_BadLine]; exact PySem.W.exm_ref zx3_BadLine zh_BadLine zx4_BadLine zs_BadBit_BadLine), (by rw [ec_BadCount]; exact PySem.W.exm_ref zx3_BadCount zh_BadCount zx4_BadCount zs_BadCount_BadCount), (by rw [ec_BadCount, ec_BadLine]; exact PySem.W.exm_ref zx3_BadLine zh_BadLine zx4_BadLine zs_BadCount_BadLine), (by rw [ec_BadLine]; exact PySem.W.exm_ref zx3_BadLine zh_BadLine zx4_BadLine zs_BadLine_BadLine), (by rw [ec_Loose, ec_BadBit]; exact PySem.W.exm_ref zx3_BadBit zh_BadBit zx4_BadBit zs_Loose_BadBit), (by rw [ec_Loose, ec_BadCount]; exact PySem.W.exm_ref zx3_BadCount zh_BadCount zx4_BadCount zs_Loose_BadCount), (by rw [ec_Loose, ec_BadLine]; exact PySem.W.exm_ref zx3_BadLine zh_BadLine zx4_BadLine zs_Loose_BadLine), (by rw [ec_Loose]; exact PySem.W.exm_ref zx3_Loose zh_Loose zx4_Loose zs_Loose_Loose), (by rw [ec_Short, ec_BadBit]; exact PySem.W.exm_ref zx3_BadBit zh_BadBit zx4_BadBit zs_Short_BadBit), (by rw [ec_Short, ec_BadCount]; exact PySem.W.exm_ref zx3_BadCount zh_BadCount zx4_BadCount zs_Short_BadCount), (by rw [ec_Short, ec_BadLine]; exact PySem.W.exm_ref zx3_BadLine zh_BadLine zx4_BadLine zs_Short_BadLine), (by rw [ec_Short, ec_Loose]; exact PySem.W.exm_ref zx3_Loose zh_Loose zx4_Loose zs_Short_Loose), (by rw [ec_Short]; exact PySem.W.exm_ref zx3_Short zh_Short zx4_Short zs_Short_Short), ⟨(by rw [ec_BadBit]; exact ⟨zq1_BadBit, zq2_BadBit, zx3_BadBit, zh_BadBit, zk1_BadBit, zk2_BadBit, zk3_BadBit, zk4_BadBit⟩), (by unfold PySem.W.kitOne; rw [if_pos (by simp)]), (by rw [ec_BadBit, ec_PackError]; exact zi_BadBit_PackError), (by rw [ec_BadBit]; exact zv_BadBit), (fun _ => by rw [ec_BadBit, ec_BadBook]; exact zi_BadBit_BadBook), (fun _ => by rw [ec_BadBit, ec_BadShares]; exact zi_BadBit_BadShares), (fun _ => by rw [ec_BadBit, ec_BadSign]; exact zi_BadBit_BadSign), (fun _ => by rw [ec_BadBit, ec_BadCount]; exact zi_BadBit_BadCount), (fun h => absurd h (by decide)), (fun _ => by rw [ec_BadBit, ec_Loose]; exact zi_BadBit_Loose), (fun _ => by rw [ec_BadBit, ec_Short]; exact zi_BadBit_Short), (fun _ => by rw [ec_BadBit, ec_BadLine]; exact zi_BadBit_BadLine)⟩, ⟨(by rw [ec_BadCount]; exact ⟨zq1_BadCount, zq2_BadCount, zx3_BadCount, zh_BadCount, zk1_BadCount, zk2_BadCount, zk3_BadCount, zk4_BadCount⟩), (by unfold PySem.W.kitOne; rw [if_pos (by simp)]), (by rw [ec_BadCount, ec_PackError]; exact zi_BadCount_PackError), (by rw [ec_BadCount]; exact zv_BadCount), (fun _ => by rw [ec_BadCount, ec_BadBook]; exact zi_BadCount_BadBook), (fun _ => by rw [ec_BadCount, ec_BadShares]; exact zi_BadCount_BadShares), (fun _ => by rw [ec_BadCount, ec_BadSign]; exact zi_BadCount_BadSign), (fun h => absurd h (by decide)), (fun _ => by rw [ec_BadCount, ec_BadBit]; exact zi_BadCount_BadBit), (fun _ => by rw [ec_BadCount, ec_Loose]; exact zi_BadCount_Loose), (fun _ => by rw [ec_BadCount, ec_Short]; exact zi_BadCount_Short), (fun _ => by rw [ec_BadCount, ec_BadLine]; exact zi_BadCount_BadLine)⟩, ⟨(by rw [ec_BadLine]; exact ⟨zq1_BadLine, zq2_BadLine, zx3_BadLine, zh_BadLine, zk1_BadLine, zk2_BadLine, zk3_BadLine, zk4_BadLine⟩), (by unfold PySem.W.kitOne; rw [if_pos (by simp)]), (by rw [ec_BadLine, ec_PackError]; exact zi_BadLine_PackError), (by rw [ec_BadLine]; exact zv_BadLine), (fun _ => by rw [ec_BadLine, ec_BadBook]; exact zi_BadLine_BadBook), (fun _ => by rw [ec_BadLine, ec_BadShares]; exact zi_BadLine_BadShares), (fun _ => by rw [ec_BadLine, ec_BadSign]; exact zi_BadLine_BadSign), (fun _ => by rw [ec_BadLine, ec_BadCount]; exact zi_BadLine_BadCount), (fun _ => by rw [ec_BadLine, ec_BadBit]; exact zi_BadLine_BadBit), (fun _ => by rw [ec_BadLine, ec_Loose]; exact zi_BadLine_Loose), (fun _ => by rw [ec_BadLine, ec_Short]; exact zi_BadLine_Short), (fun h => absurd h (by decide))⟩, ⟨(by rw [ec_Loose]; exact ⟨zq1_Loose, zq2_Loose, zx3_Loose, zh_Loose, zk1_Loose, zk2_Loose, zk3_Loose, zk4_Loose⟩), (by unfold PySem.W.kitOne; rw [if_pos (by simp)]), (by rw [ec_Loose, ec_PackError]; exact zi_Loose_PackError), (by rw [ec_Loose]; exact zv_Loose), (fun _ => by rw [ec_Loose, ec_BadBook]; exact zi_Loose_BadBook), (fun _ => by rw [ec_Loose, ec_BadShares]; exact zi_Loose_BadShares), (fun _ => by rw [ec_Loose, ec_BadSign]; exact zi_Loose_BadSign), (fun _ => by rw [ec_Loose, ec_BadCount]; exact zi_Loose_BadCount), (fun _ => by rw [ec_Loose, ec_BadBit]; exact zi_Loose_BadBit), (fun h => absurd h (by decide)), (fun _ => by rw [ec_Loose, ec_Short]; exact zi_Loose_Short), (fun _ => by rw [ec_Loose, ec_BadLine]; exact zi_Loose_BadLine)⟩, ⟨(by rw [ec_Short]; exact ⟨zq1_Short, zq2_Short, zx3_Short, zh_Short, zk1_Short, zk2_Short, zk3_Short, zk4_Short⟩), (by unfold PySem.W.kitOne; rw [if_pos (by simp)]), (by rw [ec_Short, ec_PackError]; exact zi_Short_PackError), (by rw [ec_Short]; exact zv_Short), (fun _ => by rw [ec_Short, ec_BadBook]; exact zi_Short_BadBook), (fun _ => by rw [ec_Short, ec_BadShares]; exact zi_Short_BadShares), (fun _ => by rw [ec_Short, ec_BadSign]; exact zi_Short_BadSign), (fun _ => by rw [ec_Short, ec_BadCount]; exact zi_Short_BadCount), (fun _ => by rw [ec_Short, ec_BadBit]; exact zi_Short_BadBit), (fun _ => by rw [ec_Short, ec_Loose]; exact zi_Short_Loose), (fun h => absurd h (by decide)), (fun _ => by rw [ec_Short, ec_BadLine]; exact zi_Short_BadLine)⟩⟩
  have F0 := fun_mk (st := s_is_whole) l0 c0 k0
  have b0 := F0.binds (ps := ["value", "low", "high"]) fun _ _ _ _ _ _ us hl => match us, hl with | [_, _, _], _ => rfl
  have F1 := fun_mk (st := s_check_shares) l1 c1 k1
  have b1 := F1.binds (ps := ["shares"]) fun _ _ _ _ _ _ us hl => match us, hl with | [_], _ => rfl
  have F2 := fun_mk (st := s_check_counts) l2 c2 k2
  have b2 := F2.binds (ps := ["counts", "many"]) fun _ _ _ _ _ _ us hl => match us, hl with | [_, _], _ => rfl
  have F3 := fun_mk (st := s_check_cap) l3 c3 k3
  have b3 := F3.binds (ps := ["cap", "many"]) fun _ _ _ _ _ _ us hl => match us, hl with | [_, _], _ => rfl
  have F4 := fun_mk (st := s_learnt) l4 c4 k4
  have b4 := F4.binds (ps := ["shares", "counts", "cap"]) fun _ _ _ _ _ _ us hl => match us, hl with | [_, _, _], _ => rfl
  have F5 := fun_mk (st := s_pairs) l5 c5 k5
  have b5 := F5.binds (ps := ["shares"]) fun _ _ _ _ _ _ us hl => match us, hl with | [_], _ => rfl
  have F6 := fun_mk (st := s_codes) l6 c6 k6
  have b6 := F6.binds (ps := ["shares"]) fun _ _ _ _ _ _ us hl => match us, hl with | [_], _ => rfl
  have F7 := fun_mk (st := s_counted) l7 c7 k7
  have b7 := F7.binds (ps := ["signs", "block"]) fun _ _ _ _ _ _ us hl => match us, hl with | [_, _], _ => rfl
  have F8 := fun_mk (st := s_cell_at) l8 c8 k8
  have b8 := F8.binds (ps := ["_law_script", "_law_k"]) fun _ _ _ _ _ _ us hl => match us, hl with | [_, _], _ => rfl
  have F9 := fun_mk (st := s_many_by) l9 c9 k9
  have b9 := F9.binds (ps := ["_law_cell"]) fun _ _ _ _ _ _ us hl => match us, hl with | [_], _ => rfl
  have F10 := fun_mk (st := s_signs_by) l10 c10 k10
  have b10 := F10.binds (ps := ["_law_cell", "_law_many"]) fun _ _ _ _ _ _ us hl => match us, hl with | [_, _], _ => rfl
  have F11 := fun_mk (st := s_check_signs) l11 c11 k11
  have b11 := F11.binds (ps := ["signs"]) fun _ _ _ _ _ _ us hl => match us, hl with | [_], _ => rfl
  have F12 := fun_mk (st := s_Book___init__) l12 c12 k12
  have b12 := F12.binds (ps := ["self", "signs", "size", "cap"]) fun _ _ _ _ _ _ us hl => match us, hl with | [_, _, _, _], _ => rfl
  have F13 := fun_mk (st := s_Learner___init__) l13 c13 k13
  have b13 := F13.binds (ps := ["self", "book"]) fun _ _ _ _ _ _ us hl => match us, hl with | [_, _], _ => rfl
  have F14 := fun_mk (st := s_Learner__learn) l14 c14 k14
  have b14 := F14.binds (ps := ["self"]) fun _ _ _ _ _ _ us hl => match us, hl with | [_], _ => rfl
  have F15 := fun_mk (st := s_Learner_took) l15 c15 k15
  have b15 := F15.binds (ps := ["self", "sign"]) fun _ _ _ _ _ _ us hl => match us, hl with | [_, _], _ => rfl
  have F16 := fun_mk (st := s_check_text) l16 c16 k16
  have b16 := F16.binds (ps := ["signs", "text"]) fun _ _ _ _ _ _ us hl => match us, hl with | [_, _], _ => rfl
  have F17 := fun_mk (st := s_Packer___init__) l17 c17 k17
  have b17 := F17.binds (ps := ["self", "book"]) fun _ _ _ _ _ _ us hl => match us, hl with | [_, _], _ => rfl
  have F18 := fun_mk (st := s_Packer_put) l18 c18 k18
  have b18 := F18.binds (ps := ["self", "part"]) fun _ _ _ _ _ _ us hl => match us, hl with | [_, _], _ => rfl
  have F19 := fun_mk (st := s_pack) l19 c19 k19
  have b19 := F19.binds (ps := ["book", "text"]) fun _ _ _ _ _ _ us hl => match us, hl with | [_, _], _ => rfl
  have F20 := fun_mk (st := s_check_bits) l20 c20 k20
  have b20 := F20.binds (ps := ["bits"]) fun _ _ _ _ _ _ us hl => match us, hl with | [_], _ => rfl
  have F21 := fun_mk (st := s_Unpacker___init__) l21 c21 k21
  have b21 := F21.binds (ps := ["self", "book", "many"]) fun _ _ _ _ _ _ us hl => match us, hl with | [_, _, _], _ => rfl
  have F22 := fun_mk (st := s_Learner_held) l22 c22 k22
  have b22 := F22.binds (ps := ["self"]) fun _ _ _ _ _ _ us hl => match us, hl with | [_], _ => rfl
  have F23 := fun_mk (st := s_Unpacker__arrive) l23 c23 k23
  have b23 := F23.binds (ps := ["self"]) fun _ _ _ _ _ _ us hl => match us, hl with | [_], _ => rfl
  have F24 := fun_mk (st := s_Learner_go_back) l24 c24 k24
  have b24 := F24.binds (ps := ["self", "held"]) fun _ _ _ _ _ _ us hl => match us, hl with | [_, _], _ => rfl
  have F25 := fun_mk (st := s_Unpacker__follow) l25 c25 k25
  have b25 := F25.binds (ps := ["self", "bits"]) fun _ _ _ _ _ _ us hl => match us, hl with | [_, _], _ => rfl
  have F26 := fun_mk (st := s_Unpacker_put) l26 c26 k26
  have b26 := F26.binds (ps := ["self", "bits"]) fun _ _ _ _ _ _ us hl => match us, hl with | [_, _], _ => rfl
  have F27 := fun_mk (st := s_unpack) l27 c27 k27
  have b27 := F27.binds (ps := ["book", "bits", "many"]) fun _ _ _ _ _ _ us hl => match us, hl with | [_, _, _], _ => rfl
  have F28 := fun_mk (st := s_is_count) l28 c28 k28
  have b28 := F28.binds (ps := ["count"]) fun _ _ _ _ _ _ us hl => match us, hl with | [_], _ => rfl
  have F29 := fun_mk (st := s_read) l29 c29 k29
  have b29 := F29.binds (ps := ["book", "line"]) fun _ _ _ _ _ _ us hl => match us, hl with | [_, _], _ => rfl
  have F30 := fun_mk (st := s_written) l30 c30 k30
  have b30 := F30.binds (ps := ["book", "text"]) fun _ _ _ _ _ _ us hl => match us, hl with | [_, _], _ => rfl
  have F31 := fun_mk (st := s_kinds) l31 c31 k31
  have b31 := F31.binds (ps := ["_law_e"]) fun _ _ _ _ _ _ us hl => match us, hl with | [_], _ => rfl
  have F32 := fun_mk (st := s_told) l32 c32 k32
  have b32 := F32.binds (ps := ["_law_book", "_law_line"]) fun _ _ _ _ _ _ us hl => match us, hl with | [_, _], _ => rfl
  have F33 := fun_mk (st := s_bad_count) l33 c33 k33
  have b33 := F33.binds (ps := ["_law_cell", "_law_many"]) fun _ _ _ _ _ _ us hl => match us, hl with | [_, _], _ => rfl
  have F34 := fun_mk (st := s_text_by) l34 c34 k34
  have b34 := F34.binds (ps := ["_law_script", "_law_first", "_law_signs", "_law_size"]) fun _ _ _ _ _ _ us hl => match us, hl with | [_, _, _, _], _ => rfl
  have F35 := fun_mk (st := s_book_by) l35 c35 k35
  have b35 := F35.binds (ps := ["_law_script"]) fun _ _ _ _ _ _ us hl => match us, hl with | [_], _ => rfl
  have F36 := fun_mk (st := s_law) l36 c36 k36
  refine ⟨PySem.W.fnOf "law" "law" (defArgs s_law) (defBody s_law) (defScope s_law) .none kV36 dc36 pm36 an36 cd36 ct36, fun s v => .of_eq rfl, fun base _ _ => ?_⟩
  have C0 : Cal l.prog w K mg base "is_whole" ["value", "low", "high"] 1 sp_isw := ⟨_, _, ok_is_whole T F0, PySem.W.mg_of X G a0, F0.kp, b0⟩
  have C1 : Cal l.prog w K mg base "check_shares" ["shares"] 2 (sp_chkS K) := ⟨_, _, ok_check_shares T F1 C0, PySem.W.mg_of X G a1, F1.kp, b1⟩
  have C2 : Cal l.prog w K mg base "check_counts" ["counts", "many"] 2 (sp_chkC K) := ⟨_, _, ok_check_counts T F2 C0, PySem.W.mg_of X G a2, F2.kp, b2⟩
  have C3 : Cal l.prog w K mg base "check_cap" ["cap", "many"] 2 sp_chkP := ⟨_, _, ok_check_cap T F3 C0, PySem.W.mg_of X G a3, F3.kp, b3⟩
  have C4 : Cal l.prog w K mg base "learnt" ["shares", "counts", "cap"] 3 (sp_learnt K) := ⟨_, _, ok_learnt T F4 C1 C2 C3, PySem.W.mg_of X G a4, F4.kp, b4⟩
  have C5 : Cal l.prog w K mg base "pairs" ["shares"] 3 (sp_pairs K) := ⟨_, _, ok_pairs T F5 C1, PySem.W.mg_of X G a5, F5.kp, b5⟩
  have C6 : Cal l.prog w K mg base "codes" ["shares"] 4 (sp_codes K) := ⟨_, _, ok_codes T F6 C5, PySem.W.mg_of X G a6, F6.kp, b6⟩
  have C7 : Cal l.prog w K mg base "counted" ["signs", "block"] 1 sp_counted := ⟨_, _, ok_counted T F7, PySem.W.mg_of X G a7, F7.kp, b7⟩
  have C8 : Cal l.prog w K mg base "_law_cell_at" ["_law_script", "_law_k"] 1 (sp_cell K) := ⟨_, _, ok_cell_at T F8, PySem.W.mg_of X G a8, F8.kp, b8⟩
  have C9 : Cal l.prog w K mg base "_law_many_by" ["_law_cell"] 1 sp_many := ⟨_, _, ok_many_by T F9, PySem.W.mg_of X G a9, F9.kp, b9⟩
  have C10 : Cal l.prog w K mg base "_law_signs_by" ["_law_cell", "_law_many"] 1 sp_signs := ⟨_, _, ok_signs_by T F10, PySem.W.mg_of X G a10, F10.kp, b10⟩
  have C11 : Cal l.prog w K mg base "check_signs" ["signs"] 1 sp_chkG := ⟨_, _, ok_check_signs T F11, PySem.W.mg_of X G a11, F11.kp, b11⟩
  have C12 : Mkr l.prog w K mg base "Book" ["self", "signs", "size", "cap"] 2 (sp_Binit mg) := ⟨_, _, (by rw [ec_Book]; exact ⟨mk_Book, a12, i12, kc_Book⟩), ok_Book___init__ T F12 C11 C0, (by rw [ec_Book]; exact hc_Book), b12⟩
  have C13 : Mkr l.prog w K mg base "Learner" ["self", "book"] 5 (sp_Linit mg) := ⟨_, _, (by rw [ec_Learner]; exact ⟨mk_Learner, a13, i13, kc_Learner⟩), ok_Learner___init__ T F13 C6, (by rw [ec_Learner]; exact hc_Learner), b13⟩
  have C14 : Met l.prog w K mg base "Learner" "_learn" ["self"] 5 (sp_learn mg) := ⟨_, _, cl_Learner, (by rw [ec_Learner]; exact ⟨a14, i14, k14⟩), ok_Learner__learn T F14 C7 C4 C6, b14⟩
  have C15 : Met l.prog w K mg base "Learner" "took" ["self", "sign"] 6 (sp_took mg) := ⟨_, _, cl_Learner, (by rw [ec_Learner]; exact ⟨a15, i15, k15⟩), ok_Learner_took T F15 C14, b15⟩
  have C16 : Cal l.prog w K mg base "check_text" ["signs", "text"] 1 sp_chkT := ⟨_, _, ok_check_text T F16, PySem.W.mg_of X G a16, F16.kp, b16⟩
  have C17 : Mkr l.prog w K mg base "Packer" ["self", "book"] 7 (sp_Pinit mg) := ⟨_, _, (by rw [ec_Packer]; exact ⟨mk_Packer, a17, i17, kc_Packer⟩), ok_Packer___init__ T F17 C13, (by rw [ec_Packer]; exact hc_Packer), b17⟩
  have C18 : Met l.prog w K mg base "Packer" "put" ["self", "part"] 7 (sp_Pput mg) := ⟨_, _, cl_Packer, (by rw [ec_Packer]; exact ⟨a18, i18, k18⟩), ok_Packer_put T F18 C16 C15, b18⟩
  have C19 : Cal l.prog w K mg base "pack" ["book", "text"] 9 (sp_pack mg) := ⟨_, _, ok_pack T F19 C18 C17, PySem.W.mg_of X G a19, F19.kp, b19⟩
  have C20 : CalX l.prog w K mg base "check_bits" ["bits"] 1 (sp_xB mg) := ⟨_, _, ok_check_bits T F20, PySem.W.mg_of X G a20, F20.kp, b20⟩
  have C21 : MkrX l.prog w K mg base "Unpacker" ["self", "book", "many"] 7 (sp_xUinit mg) := ⟨_, _, (by rw [ec_Unpacker]; exact ⟨mk_Unpacker, a21, i21, kc_Unpacker⟩), ok_Unpacker___init__ T F21 C13 C0, (by rw [ec_Unpacker]; exact hc_Unpacker), b21⟩
  have C22 : Met l.prog w K mg base "Learner" "held" ["self"] 1 (sp_Lheld mg) := ⟨_, _, cl_Learner, (by rw [ec_Learner]; exact ⟨a22, i22, k22⟩), ok_Learner_held T F22, b22⟩
  have C23 : Met l.prog w K mg base "Unpacker" "_arrive" ["self"] 7 (sp_Uarr mg) := ⟨_, _, cl_Unpacker, (by rw [ec_Unpacker]; exact ⟨a23, i23, k23⟩), ok_Unpacker__arrive T F23 C15, b23⟩
  have C24 : Met l.prog w K mg base "Learner" "go_back" ["self", "held"] 1 (sp_Lback mg) := ⟨_, _, cl_Learner, (by rw [ec_Learner]; exact ⟨a24, i24, k24⟩), ok_Learner_go_back T F24, b24⟩
  have C25 : Met l.prog w K mg base "Unpacker" "_follow" ["self", "bits"] 8 (sp_Ufol mg) := ⟨_, _, cl_Unpacker, (by rw [ec_Unpacker]; exact ⟨a25, i25, k25⟩), ok_Unpacker__follow T F25 C23, b25⟩
  have C26 : MetX l.prog w K mg base "Unpacker" "put" ["self", "bits"] 9 (sp_xput mg) := ⟨_, _, cl_Unpacker, (by rw [ec_Unpacker]; exact ⟨a26, i26, k26⟩), ok_Unpacker_put T F26 C20 C25 C22 C24, b26⟩
  have C27 : CalX l.prog w K mg base "unpack" ["book", "bits", "many"] 10 (sp_xunpack mg) := ⟨_, _, ok_unpack T F27 C21 C26, PySem.W.mg_of X G a27, F27.kp, b27⟩
  have C28 : Cal l.prog w K mg base "is_count" ["count"] 1 sp_isc := ⟨_, _, ok_is_count T F28, PySem.W.mg_of X G a28, F28.kp, b28⟩
  have C29 : CalX l.prog w K mg base "read" ["book", "line"] 11 (sp_read mg) := ⟨_, _, ok_read T F29 C27 C28, PySem.W.mg_of X G a29, F29.kp, b29⟩
  have C30 : Cal l.prog w K mg base "written" ["book", "text"] 10 (sp_written mg) := ⟨_, _, ok_written T F30 C19, PySem.W.mg_of X G a30, F30.kp, b30⟩
  have C31 : CalE l.prog w K mg base "_law_kinds" ["_law_e"] 1 (sp_kinds mg) := ⟨_, _, ok_kinds T F31, PySem.W.mg_of X G a31, F31.kp, b31⟩
  have C32 : Cal l.prog w K mg base "_law_told" ["_law_book", "_law_line"] 12 (sp_told mg) := ⟨_, _, ok_told T F32 C29 C31, PySem.W.mg_of X G a32, F32.kp, b32⟩
  have C33 : Cal l.prog w K mg base "_law_bad_count" ["_law_cell", "_law_many"] 1 sp_bad := ⟨_, _, ok_bad_count T F33, PySem.W.mg_of X G a33, F33.kp, b33⟩
  have C34 : Cal l.prog w K mg base "_law_text_by" ["_law_script", "_law_first", "_law_signs", "_law_size"] 2 (sp_textBy K) := ⟨_, _, ok_text_by T F34 C8, PySem.W.mg_of X G a34, F34.kp, b34⟩
  have C35 : Cal l.prog w K mg base "_law_book_by" ["_law_script"] 2 (sp_bookBy K) := ⟨_, _, ok_book_by T F35 C9 C10 C8, PySem.W.mg_of X G a35, F35.kp, b35⟩
  exact ok_law T F36 C35 C12 C34 C19 C30 C29 C8 C32 C33
end SP
open PySem PySem.W PyProof.Rows
set_option maxRecDepth 100000 in
set_option maxHeartbeats 0 in
theorem PySem.Challenge.cw_sharepack_k11_lines_holds : PySem.Challenge.rw_sharepack_k11_lines.Holds := by
  w_on; o_law; k_head; (case hw => w_witness2)
  k_fill
  refine L2.walk_ofK (l := PySem.Challenge.rw_sharepack_k11_lines) (n := 63) (k := 13) (x := "_law_script") (CX := L2.CX0) (sp := fun K => SP.sp_law K) rfl (by decide) rfl ⟨rfl, by decide, by decide⟩ (fun w h Y => PySem.W.kIn_of Y) ?F (fun K H a ns hl hO hS => SP.law_start hl hS) (fun _ _ _ _ h => h)
  case F =>
    intro w mg fa h KX G hmg
    refine' SP.all_mk KX G hmg ?zc_BadBit ?zc_BadBook ?zc_BadCount ?zc_BadLine ?zc_BadShares ?zc_BadSign ?zc_Book ?zc_Learner ?zc_Loose ?zc_PackError ?zc_Packer ?zc_Short ?zc_Unpacker ?a0 ?l0 ?c0 ?k0 ?a1 ?l1 ?c1 ?k1 ?a2 ?l2 ?c2 ?k2 ?a3 ?l3 ?c3 ?k3 ?a4 ?l4 ?c4 ?k4 ?a5 ?l5 ?c5 ?k5 ?a6 ?l6 ?c6 ?k6 ?a7 ?l7 ?c7 ?k7 ?a8 ?l8 ?c8 ?k8 ?a9 ?l9 ?c9 ?k9 ?a10 ?l10 ?c10 ?k10 ?a11 ?l11 ?c11 ?k11 ?a12 ?i12 ?l12 ?c12 ?k12 ?a13 ?i13 ?l13 ?c13 ?k13 ?a14 ?i14 ?l14 ?c14 ?k14 ?a15 ?i15 ?l15 ?c15 ?k15 ?a16 ?l16 ?c16 ?k16 ?a17 ?i17 ?l17 ?c17 ?k17 ?a18 ?i18 ?l18 ?c18 ?k18 ?a19 ?l19 ?c19 ?k19 ?a20 ?l20 ?c20 ?k20 ?a21 ?i21 ?l21 ?c21 ?k21 ?a22 ?i22 ?l22 ?c22 ?k22 ?a23 ?i23 ?l23 ?c23 ?k23 ?a24 ?i24 ?l24 ?c24 ?k24 ?a25 ?i25 ?l25 ?c25 ?k25 ?a26 ?i26 ?l26 ?c26 ?k26 ?a27 ?l27 ?c27 ?k27 ?a28 ?l28 ?c28 ?k28 ?a29 ?l29 ?c29 ?k29 ?a30 ?l30 ?c30 ?k30 ?a31 ?l31 ?c31 ?k31 ?a32 ?l32 ?c32 ?k32 ?a33 ?l33 ?c33 ?k33 ?a34 ?l34 ?c34 ?k34 ?a35 ?l35 ?c35 ?k35 ?a36 ?l36 ?c36 ?k36 ?zb_ValueError ?zb_bool ?zb_enumerate ?zb_int ?zb_isinstance ?zb_len ?zb_list ?zb_max ?zb_range ?zb_reversed ?zb_str ?zb_sum ?zb_zip ?pg_Book ?hd_Book ?po_Book ?sa_Book ?pg_Learner ?hd_Learner ?po_Learner ?sa_Learner ?pg_Packer ?hd_Packer ?po_Packer ?sa_Packer ?pg_Unpacker ?hd_Unpacker ?po_Unpacker ?sa_Unpacker ?zn_Book_cap ?zn_Book_signs ?zn_Book_size ?zn_Learner__book ?zn_Learner_shares ?zn_Learner_waits ?zn_Learner_words ?zn_Packer__signs ?zn_Packer_learner ?zn_Unpacker__signs ?zn_Unpacker__way ?zn_Unpacker_learner ?zn_Unpacker_left ?zg_GREATEST_CAP ?zg_GREATEST_SHARE ?zg_LONGEST_BLOCK ?zg_LONGEST_TEXT ?zg_MOST_FIGURES ?zg_MOST_SHARES ?zg_heapify ?zg_heappop ?zg_heappush ?zx1_BadBit ?zx2_BadBit ?zx3_BadBit ?zx4_BadBit ?zx1_BadCount ?zx2_BadCount ?zx3_BadCount ?zx4_BadCount ?zx1_BadLine ?zx2_BadLine ?zx3_BadLine ?zx4_BadLine ?zx1_Loose ?zx2_Loose ?zx3_Loose ?zx4_Loose ?zx1_Short ?zx2_Short ?zx3_Short ?zx4_Short ?zs_BadBit_BadBit ?zh_BadBit ?zs_BadBit_BadCount ?zh_BadCount ?zs_BadBit_BadLine ?zh_BadLine ?zs_BadCount_BadCount ?zs_BadCount_BadLine ?zs_BadLine_BadLine ?zs_Loose_BadBit ?zs_Loose_BadCount ?zs_Loose_BadLine ?zs_Loose_Loose ?zh_Loose ?zs_Short_BadBit ?zs_Short_BadCount ?zs_Short_BadLine ?zs_Short_Loose ?zs_Short_Short ?zh_Short ?zq1_BadBit ?zq2_BadBit ?zk1_BadBit ?zk2_BadBit ?zk3_BadBit ?zk4_BadBit ?zi_BadBit_BadBook ?zi_BadBit_BadShares ?zi_BadBit_BadSign ?zi_BadBit_BadCount ?zi_BadBit_Loose ?zi_BadBit_Short ?zi_BadBit_BadLine ?zi_BadBit_PackError ?zv_BadBit ?zq1_BadCount ?zq2_BadCount ?zk1_BadCount ?zk2_BadCount ?zk3_BadCount ?zk4_BadCount ?zi_BadCount_BadBook ?zi_BadCount_BadShares ?zi_BadCount_BadSign ?zi_BadCount_BadBit ?zi_BadCount_Loose ?zi_BadCount_Short ?zi_BadCount_BadLine ?zi_BadCount_PackError ?zv_BadCount ?zq1_BadLine ?zq2_BadLine ?zk1_BadLine ?zk2_BadLine ?zk3_BadLine ?zk4_BadLine ?zi_BadLine_BadBook ?zi_BadLine_BadShares ?zi_BadLine_BadSign ?zi_BadLine_BadCount ?zi_BadLine_BadBit ?zi_BadLine_Loose ?zi_BadLine_Short ?zi_BadLine_PackError ?zv_BadLine ?zq1_Loose ?zq2_Loose ?zk1_Loose ?zk2_Loose ?zk3_Loose ?zk4_Loose ?zi_Loose_BadBook ?zi_Loose_BadShares ?zi_Loose_BadSign ?zi_Loose_BadCount ?zi_Loose_BadBit ?zi_Loose_Short ?zi_Loose_BadLine ?zi_Loose_PackError ?zv_Loose ?zq1_Short ?zq2_Short ?zk1_Short ?zk2_Short ?zk3_Short ?zk4_Short ?zi_Short_BadBook ?zi_Short_BadShares ?zi_Short_BadSign ?zi_Short_BadCount ?zi_Short_BadBit ?zi_Short_Loose ?zi_Short_BadLine ?zi_Short_PackError ?zv_Short ?mk_Book ?kc_Book ?mk_Learner ?kc_Learner ?mk_Packer ?kc_Packer ?mk_Unpacker ?kc_Unpacker
    (case zc_BadBit => k_is)
    (case zc_BadBook => k_is)
    (case zc_BadCount => k_is)
    (case zc_BadLine => k_is)
    (case zc_BadShares => k_is)
    (case zc_BadSign => k_is)
    (case zc_Book => k_is)
    (case zc_Learner => k_is)
    (case zc_Loose => k_is)
    (case zc_PackError => k_is)
    (case zc_Packer => k_is)
    (case zc_Short => k_is)
    (case zc_Unpacker => k_is)
    (case a0 => k_is)
    (case l0 => k_is)
    (case c0 => k_is)
    (case k0 => k_is)
    (case a1 => k_is)
    (case l1 => k_is)
    (case c1 => k_is)
    (case k1 => k_is)
    (case a2 => k_is)
    (case l2 => k_is)
    (case c2 => k_is)
    (case k2 => k_is)
    (case a3 => k_is)
    (case l3 => k_is)
    (case c3 => k_is)
    (case k3 => k_is)
    (case a4 => k_is)
    (case l4 => k_is)
    (case c4 => k_is)
    (case k4 => k_is)
    (case a5 => k_is)
    (case l5 => k_is)
    (case c5 => k_is)
    (case k5 => k_is)
    (case a6 => k_is)
    (case l6 => k_is)
    (case c6 => k_is)
    (case k6 => k_is)
    (case a7 => k_is)
    (case l7 => k_is)
    (case c7 => k_is)
    (case k7 => k_is)
    (case a8 => k_is)
    (case l8 => k_is)
    (case c8 => k_is)
    (case k8 => k_is)
    (case a9 => k_is)
    (case l9 => k_is)
    (case c9 => k_is)
    (case k9 => k_is)
    (case a10 => k_is)
    (case l10 => k_is)
    (case c10 => k_is)
    (case k10 => k_is)
    (case a11 => k_is)
    (case l11 => k_is)
    (case c11 => k_is)
    (case k11 => k_is)
    (case a12 => k_is)
    (case i12 => k_is)
    (case l12 => k_is)
    (case c12 => k_is)
    (case k12 => k_is)
    (case a13 => k_is)
    (case i13 => k_is)
    (case l13 => k_is)
    (case c13 => k_is)
    (case k13 => k_is)
    (case a14 => k_is)
    (case i14 => k_is)
    (case l14 => k_is)
    (case c14 => k_is)
    (case k14 => k_is)
    (case a15 => k_is)
    (case i15 => k_is)
    (case l15 => k_is)
    (case c15 => k_is)
    (case k15 => k_is)
    (case a16 => k_is)
    (case l16 => k_is)
    (case c16 => k_is)
    (case k16 => k_is)
    (case a17 => k_is)
    (case i17 => k_is)
    (case l17 => k_is)
    (case c17 => k_is)
    (case k17 => k_is)
    (case a18 => k_is)
    (case i18 => k_is)
    (case l18 => k_is)
    (case c18 => k_is)
    (case k18 => k_is)
    (case a19 => k_is)
    (case l19 => k_is)
    (case c19 => k_is)
    (case k19 => k_is)
    (case a20 => k_is)
    (case l20 => k_is)
    (case c20 => k_is)
    (case k20 => k_is)
    (case a21 => k_is)
    (case i21 => k_is)
    (case l21 => k_is)
    (case c21 => k_is)
    (case k21 => k_is)
    (case a22 => k_is)
    (case i22 => k_is)
    (case l22 => k_is)
    (case c22 => k_is)
    (case k22 => k_is)
    (case a23 => k_is)
    (case i23 => k_is)
    (case l23 => k_is)
    (case c23 => k_is)
    (case k23 => k_is)
    (case a24 => k_is)
    (case i24 => k_is)
    (case l24 => k_is)
    (case c24 => k_is)
    (case k24 => k_is)
    (case a25 => k_is)
    (case i25 => k_is)
    (case l25 => k_is)
    (case c25 => k_is)
    (case k25 => k_is)
    (case a26 => k_is)
    (case i26 => k_is)
    (case l26 => k_is)
    (case c26 => k_is)
    (case k26 => k_is)
    (case a27 => k_is)
    (case l27 => k_is)
    (case c27 => k_is)
    (case k27 => k_is)
    (case a28 => k_is)
    (case l28 => k_is)
    (case c28 => k_is)
    (case k28 => k_is)
    (case a29 => k_is)
    (case l29 => k_is)
    (case c29 => k_is)
    (case k29 => k_is)
    (case a30 => k_is)
    (case l30 => k_is)
    (case c30 => k_is)
    (case k30 => k_is)
    (case a31 => k_is)
    (case l31 => k_is)
    (case c31 => k_is)
    (case k31 => k_is)
    (case a32 => k_is)
    (case l32 => k_is)
    (case c32 => k_is)
    (case k32 => k_is)
    (case a33 => k_is)
    (case l33 => k_is)
    (case c33 => k_is)
    (case k33 => k_is)
    (case a34 => k_is)
    (case l34 => k_is)
    (case c34 => k_is)
    (case k34 => k_is)
    (case a35 => k_is)
    (case l35 => k_is)
    (case c35 => k_is)
    (case k35 => k_is)
    (case a36 => k_is)
    (case l36 => k_is)
    (case c36 => k_is)
    (case k36 => k_is)
    (case zb_ValueError => k_is)
    (case zb_bool => k_is)
    (case zb_enumerate => k_is)
    (case zb_int => k_is)
    (case zb_isinstance => k_is)
    (case zb_len => k_is)
    (case zb_list => k_is)
    (case zb_max => k_is)
    (case zb_range => k_is)
    (case zb_reversed => k_is)
    (case zb_str => k_is)
    (case zb_sum => k_is)
    (case zb_zip => k_is)
    (case pg_Book => k_is)
    (case hd_Book => k_is)
    (case po_Book => k_is)
    (case sa_Book => k_is)
    (case pg_Learner => k_is)
    (case hd_Learner => k_is)
    (case po_Learner => k_is)
    (case sa_Learner => k_is)
    (case pg_Packer => k_is)
    (case hd_Packer => k_is)
    (case po_Packer => k_is)
    (case sa_Packer => k_is)
    (case pg_Unpacker => k_is)
    (case hd_Unpacker => k_is)
    (case po_Unpacker => k_is)
    (case sa_Unpacker => k_is)
    (case zn_Book_cap => k_is)
    (case zn_Book_signs => k_is)
    (case zn_Book_size => k_is)
    (case zn_Learner__book => k_is)
    (case zn_Learner_shares => k_is)
    (case zn_Learner_waits => k_is)
    (case zn_Learner_words => k_is)
    (case zn_Packer__signs => k_is)
    (case zn_Packer_learner => k_is)
    (case zn_Unpacker__signs => k_is)
    (case zn_Unpacker__way => k_is)
    (case zn_Unpacker_learner => k_is)
    (case zn_Unpacker_left => k_is)
    (case zg_GREATEST_CAP => k_is)
    (case zg_GREATEST_SHARE => k_is)
    (case zg_LONGEST_BLOCK => k_is)
    (case zg_LONGEST_TEXT => k_is)
    (case zg_MOST_FIGURES => k_is)
    (case zg_MOST_SHARES => k_is)
    (case zg_heapify => k_is)
    (case zg_heappop => k_is)
    (case zg_heappush => k_is)
    (case zx1_BadBit => k_exc)
    (case zx2_BadBit => k_is)
    (case zx3_BadBit => k_is)
    (case zx4_BadBit => k_is)
    (case zx1_BadCount => k_exc)
    (case zx2_BadCount => k_is)
    (case zx3_BadCount => k_is)
    (case zx4_BadCount => k_is)
    (case zx1_BadLine => k_exc)
    (case zx2_BadLine => k_is)
    (case zx3_BadLine => k_is)
    (case zx4_BadLine => k_is)
    (case zx1_Loose => k_exc)
    (case zx2_Loose => k_is)
    (case zx3_Loose => k_is)
    (case zx4_Loose => k_is)
    (case zx1_Short => k_exc)
    (case zx2_Short => k_is)
    (case zx3_Short => k_is)
    (case zx4_Short => k_is)
    (case zs_BadBit_BadBit => k_is)
    (case zh_BadBit => k_is)
    (case zs_BadBit_BadCount => k_is)
    (case zh_BadCount => k_is)
    (case zs_BadBit_BadLine => k_is)
    (case zh_BadLine => k_is)
    (case zs_BadCount_BadCount => k_is)
    (case zs_BadCount_BadLine => k_is)
    (case zs_BadLine_BadLine => k_is)
    (case zs_Loose_BadBit => k_is)
    (case zs_Loose_BadCount => k_is)
    (case zs_Loose_BadLine => k_is)
    (case zs_Loose_Loose => k_is)
    (case zh_Loose => k_is)
    (case zs_Short_BadBit => k_is)
    (case zs_Short_BadCount => k_is)
    (case zs_Short_BadLine => k_is)
    (case zs_Short_Loose => k_is)
    (case zs_Short_Short => k_is)
    (case zh_Short => k_is)
    (case zq1_BadBit => k_is)
    (case zq2_BadBit => k_is)
    (case zk1_BadBit => k_is)
    (case zk2_BadBit => k_is)
    (case zk3_BadBit => k_is)
    (case zk4_BadBit => k_is)
    (case zi_BadBit_BadBook => kit_is)
    (case zi_BadBit_BadShares => kit_is)
    (case zi_BadBit_BadSign => kit_is)
    (case zi_BadBit_BadCount => kit_is)
    (case zi_BadBit_Loose => kit_is)
    (case zi_BadBit_Short => kit_is)
    (case zi_BadBit_BadLine => kit_is)
    (case zi_BadBit_PackError => kit_is)
    (case zv_BadBit => kit_is)
    (case zq1_BadCount => k_is)
    (case zq2_BadCount => k_is)
    (case zk1_BadCount => k_is)
    (case zk2_BadCount => k_is)
    (case zk3_BadCount => k_is)
    (case zk4_BadCount => k_is)
    (case zi_BadCount_BadBook => kit_is)
    (case zi_BadCount_BadShares => kit_is)
    (case zi_BadCount_BadSign => kit_is)
    (case zi_BadCount_BadBit => kit_is)
    (case zi_BadCount_Loose => kit_is)
    (case zi_BadCount_Short => kit_is)
    (case zi_BadCount_BadLine => kit_is)
    (case zi_BadCount_PackError => kit_is)
    (case zv_BadCount => kit_is)
    (case zq1_BadLine => k_is)
    (case zq2_BadLine => k_is)
    (case zk1_BadLine => k_is)
    (case zk2_BadLine => k_is)
    (case zk3_BadLine => k_is)
    (case zk4_BadLine => k_is)
    (case zi_BadLine_BadBook => kit_is)
    (case zi_BadLine_BadShares => kit_is)
    (case zi_BadLine_BadSign => kit_is)
    (case zi_BadLine_BadCount => kit_is)
    (case zi_BadLine_BadBit => kit_is)
    (case zi_BadLine_Loose => kit_is)
    (case zi_BadLine_Short => kit_is)
    (case zi_BadLine_PackError => kit_is)
    (case zv_BadLine => kit_is)
    (case zq1_Loose => k_is)
    (case zq2_Loose => k_is)
    (case zk1_Loose => k_is)
    (case zk2_Loose => k_is)
    (case zk3_Loose => k_is)
    (case zk4_Loose => k_is)
    (case zi_Loose_BadBook => kit_is)
    (case zi_Loose_BadShares => kit_is)
    (case zi_Loose_BadSign => kit_is)
    (case zi_Loose_BadCount => kit_is)
    (case zi_Loose_BadBit => kit_is)
    (case zi_Loose_Short => kit_is)
    (case zi_Loose_BadLine => kit_is)
    (case zi_Loose_PackError => kit_is)
    (case zv_Loose => kit_is)
    (case zq1_Short => k_is)
    (case zq2_Short => k_is)
    (case zk1_Short => k_is)
    (case zk2_Short => k_is)
    (case zk3_Short => k_is)
    (case zk4_Short => k_is)
    (case zi_Short_BadBook => kit_is)
    (case zi_Short_BadShares => kit_is)
    (case zi_Short_BadSign => kit_is)
    (case zi_Short_BadCount => kit_is)
    (case zi_Short_BadBit => kit_is)
    (case zi_Short_Loose => kit_is)
    (case zi_Short_BadLine => kit_is)
    (case zi_Short_PackError => kit_is)
    (case zv_Short => kit_is)
    (case mk_Book => k_is)
    (case kc_Book => k_is)
    (case mk_Learner => k_is)
    (case kc_Learner => k_is)
    (case mk_Packer => k_is)
    (case kc_Packer => k_is)
    (case mk_Unpacker => k_is)
    (case kc_Unpacker => k_is)
