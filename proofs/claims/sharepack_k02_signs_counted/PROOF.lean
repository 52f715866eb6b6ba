import PyProof.Rows.All
import Wide.All
import OpenK.AllK
import Wide.FinOn
import HandS.ForMost
import HandS.Evl
import HandS.Walk
import HandS.IsInst
import HandS.RevRange
import HandS.Gcd
import PySem.Challenge.RW_sharepack_k02_signs_counted
set_option Elab.async false
set_option linter.all false
set_option maxRecDepth 100000
set_option maxHeartbeats 4000000
set_option maxHeartbeats 4000000
namespace SP
open PySem L2 Evl

/-- a def of the module, ready to be called -/
structure Cal (P : Program) (w : World) (K : PySem.W.Frag) (mg : Str → Option Value) (base : Heap) (x : Str) (ps : List Str) (k : Nat) (sp : Sp) : Prop where
  ex : ∃ f fd, FnOk P w K mg base CX0 k f fd ps sp ∧ mg x = some (.ref f) ∧ PySem.W.keepIn K (.ref f) = true ∧ Binds K fd ps []

section
variable {X : Cx} {x : Str} {ps : List Str} {k k' : Nat} {sp : Sp} {p pos : Pos} {e : Expr} {es : List Expr} {t : TA}
theorem pe_cal (C : Cal X.prog X.w X.K X.mg X.base x ps k sp) (hr : Room k' X.A) (hk : k ≤ k') (hg : Gl X x) (ha : PA X (e :: es) t)
    (hdb : (x == ("__debug__" : Str)) = false := by decide) (he : starEach (e :: es) X.env = (false, eval e X.env) :: starEach es X.env := by rfl) (hpl : (backTo pos (starEach es X.env)).any (·.1) = false := by rfl) :
    PE X (.Call (.Name x p) (e :: es) [] pos) (tCall sp [] E0 t) := by
  obtain ⟨f, fd, G, m, kp, b⟩ := C.ex
  exact pe_call G (hr.mono hk) hg m kp b .nil pass0 ha hdb he hpl
end

theorem pe_globX {X : Cx} {x : Str} {v : V} {pos : Pos} (hg : Gl X x) (h : ∃ u, X.mg x = some u ∧ RelV v u) (hd : (x == ("__debug__" : Str)) = false := by decide) : PE X (.Name x pos) (tC v) := by
  obtain ⟨u, hm, r⟩ := h
  exact pe_glob hg hm r hd
/-! rules for a comprehension's element: the written part named by a letter -/
section
variable {X : Cx} {K : PySem.W.Frag} {a b o e : Expr} {es : List Expr} {ta tb to : TE} {t : TA} {pos apos cpos : Pos} {name : Str} {T id : String} {r : V → List V → Hp → VK → Prop}
theorem pe_ixLK (hK : X.K = K) (ha : PE X a ta) (hb : PE X b tb) (hs : PlainIx b) : PE X (.Subscript a b pos) (tOp (rIxL K) ta tb) := by
  subst hK
  exact pe_ix ix_list ha hb hs
theorem pe_ixTK (hK : X.K = K) (ha : PE X a ta) (hb : PE X b tb) (hs : PlainIx b) : PE X (.Subscript a b pos) (tOp (rIxT K) ta tb) := by
  subst hK
  exact pe_ix ix_tup ha hb hs
theorem pe_bmK (hK : X.K = K) (pa : PlainAttrs T) (slot : Slot T name id) (hty : typeOf (.builtin id) = pure (.type "method_descriptor")) (hm : MtR X id r) (ho : PE X o to) (ha : PA X (e :: es) t)
    (hbase : attributeBase o name X.env (eval o X.env) = eval o X.env := by rfl)
    (hfew : ((backTo cpos (starEach (e :: es) X.env)).all (fun x => !x.1) && (backToKw cpos (keywordEach [] X.env)).all (fun x => x.1.isSome)
      && decide ((e :: es).length + ([] : List Keyword).length + (if ([] : List Keyword).isEmpty then 0 else 1) < 30)) = true := by rfl)
    (hline : (apos.endLine == cpos.line) = true := by rfl) (hs : starEach (e :: es) X.env = (false, eval e X.env) :: starEach es X.env := by rfl) (hplain : (backTo cpos (starEach es X.env)).any (·.1) = false := by rfl) :
    PE X (.Call (.Attribute o name apos) (e :: es) [] cpos) (tBM K T r to t) := by
  subst hK
  exact pe_bm pa slot hty hm ho ha hbase hfew hline hs hplain
end
section
variable {K : PySem.W.Frag} {σ : L2.St} {H H' : Hp} {ta tb te tx : TE} {t u : TT} {x y z v : V} {r : R2}
theorem ev_cal {sp : Sp} {vs : List V} {E : XK} {ta : TA} (h : EvA ta σ H vs) (hs : SpV sp vs H z) : Ev (tCall sp [] E ta) σ H z :=
  ev_call h (by rw [List.append_nil]; exact hs)
theorem el_cal {sp : Sp} {vs xs : List V} {E : XK} {ta : TA} (h : EvA ta σ H vs) (hs : SpL sp vs H xs) : EvL (tCall sp [] E ta) σ H xs :=
  el_call h (by rw [List.append_nil]; exact hs)
theorem rv_fdiv {i j : Int} (hc : 0 < j ∧ j < 1073741824) : RV (rI CDiv fun i j => .int (i / j)) (.int i) (.int j) H (.int (i / j)) := rv_I hc
theorem rv_mod {i j : Int} (hc : 0 < j) : RV (rI (fun _ j => 0 < j) fun i j => .int (i % j)) (.int i) (.int j) H (.int (i % j)) := rv_I (C := fun _ j => 0 < j) hc
theorem rv_mul {i j : Int} (hc : CMul i j) : RV (rI CMul fun i j => .int (i * j)) (.int i) (.int j) H (.int (i * j)) := rv_I hc
theorem rv_addS {i j : Str} (h : i.length + j.length ≤ sizeLine) : RV (fun x y H Q => ∃ i j, x = .str i ∧ y = .str j ∧ i.length + j.length ≤ sizeLine ∧ Q (.str (i ++ j)) H) (.str i) (.str j) H (.str (i ++ j)) :=
  fun H1 _ _ q => ⟨i, j, rfl, rfl, h, q H1 (Ex.refl H1)⟩
/-- len of a list | a text -/
theorem ev_lenL {K : PySem.W.Frag} {p : Addr} {xs : List V} (ha : Ev ta σ H (.ref p)) (h : SqL K H p xs) : Ev (tCB (rLenS K) (tCons ta tNil)) σ H (.int (xs.length : Int)) := ev_len ha h
theorem ev_lenZ {z : Str} (ha : Ev ta σ H (.str z)) (h : z.length ≤ sizeLine) : Ev (tCB (fun xs H Q => ∃ z, xs = [.str z] ∧ z.length ≤ sizeLine ∧ Q (.int z.length) H) (tCons ta tNil)) σ H (.int (z.length : Int)) := fun H1 e Q q =>
  ha H1 e _ fun H2 e2 => ⟨z, rfl, h, q H2 e2⟩
/-- isinstance(x, T), T a built-in class -/
theorem ev_isi {n a : String} {b : Bool} (ha : Ev ta σ H x) (hb : Ev tb σ H (.ty n)) (ht : ∀ H1, Ex H H1 → TyX K H1 x (.type a)) (h : kitB a n = some b) : Ev (tCB (rIsi K) (tCons ta (tCons tb tNil))) σ H (.bl b) := fun H1 e Q q =>
  ha H1 e _ fun H2 e2 => hb H2 (e.trans e2) _ fun H3 e3 => ⟨x, .ty n, .type a, .type n, b, rfl, .ty n, ht H3 ((e.trans e2).trans e3), kit_ty h, q H3 (e2.trans e3)⟩
theorem ty_int {i : Int} : TyX K H (.int i) (.type "int") := .base (.int i)
theorem ty_lst {a : Addr} {xs : List V} (e : H a = some (.lst xs)) : TyX K H (.ref a) (.type "list") := .base (.lst e)
theorem ty_tup {a : Addr} {xs : List V} (e : H a = some (.tup xs)) : TyX K H (.ref a) (.type "tuple") := .base (.tup e)
theorem ty_str {z : Str} : TyX K H (.str z) (.type "str") := .base (.str z)
/-- list(x) of a list -/
theorem el_listof {p : Addr} {xs : List V} (ha : Ev ta σ H (.ref p)) (h : SqL K H p xs) : EvL (tCB (rListS K) (tCons ta tNil)) σ H xs := el_list ha h
/-- sum of a list of ints -/
theorem ev_sum {p : Addr} {ns : List Int} (ha : Ev ta σ H (.ref p)) (h : SqL K H p (ns.map V.int)) : Ev (tCB (rSum K) (tCons ta tNil)) σ H (.int ns.sum) := fun H1 e Q q =>
  ha H1 e _ fun H2 e2 => ⟨p, ns, rfl, ex_l (e.trans e2) h, q H2 e2⟩
theorem ev_sumN {ns : List Int} (ha : EvL ta σ H (ns.map V.int)) : Ev (tCB (rSum K) (tCons ta tNil)) σ H (.int ns.sum) := fun H1 e Q q =>
  ha H1 e _ fun p H2 _ e2 h2 => ⟨p, ns, rfl, sq_of h2, q H2 e2⟩
/-- a < b < c over ints -/
theorem ev_chain {p q : Int → Int → Bool} {i j k : Int} {tc : TE} (ha : Ev ta σ H (.int i)) (hb : Ev tb σ H (.int j)) (hc : Ev tc σ H (.int k)) :
    Ev (tChain (rI0 fun i j => .bl (p i j)) (rI0 fun i j => .bl (q i j)) ta tb tc) σ H (.bl (p i j && q j k)) := fun H1 e Q h =>
  ha H1 e _ fun H2 e2 => hb H2 (e.trans e2) _ fun H3 e3 => ⟨i, j, rfl, rfl, p i j, rfl, by
    cases hp : p i j with
    | true =>
      show tc σ H3 _
      exact hc H3 ((e.trans e2).trans e3) _ fun H4 e4 => ⟨j, k, rfl, rfl, (by
        have h4 := h H4 ((e2.trans e3).trans e4)
        rw [hp] at h4
        exact h4)⟩
    | false =>
      show Q (.bl false) H3
      have := h H3 (e2.trans e3)
      rw [hp] at this
      exact this⟩
theorem spv {sp : Sp} {vs : List V} (h : ∀ H1, Ex H H1 → ∀ (Q : VK) (E : XK), RetV z H1 Q → sp vs H1 Q E) : SpV sp vs H z := fun H1 e Q q E => h H1 e Q E q
theorem spl {sp : Sp} {vs xs : List V} (h : ∀ H1, Ex H H1 → ∀ (Q : VK) (E : XK), RetL xs H1 Q → sp vs H1 Q E) : SpL sp vs H xs := fun H1 e Q q E => h H1 e Q E q
/-- return f(x, y), y a new list -/
theorem s_retArg2L {D : Ends} {sp : Sp} {E : XK} {p : Addr} {ys : List V} (ha : Ev ta σ H (.ref p)) (hb : EvL tb σ H ys) (hs : ∀ r H1, Ex H H1 → H1 r = some (.lst ys) → SpV sp [.ref p, .ref r] H1 z) (k : ∀ H1, Ex H H1 → D.rt z H1) :
    tRet (tCall sp [] E (tCons ta (tCons tb tNil))) D σ H :=
  ha H (Ex.refl H) _ fun H1 e1 => hb H1 e1 _ fun r H2 _ e2 h2 => hs r H2 (e1.trans e2) h2 H2 (Ex.refl H2) _ (fun H3 e3 => k H3 ((e1.trans e2).trans e3)) E
/-- the script's cell at a place, 0 behind its end -/
def cel (ns : List Int) (j : Nat) : Int := ns.getD j 0
theorem cel_in {ns : List Int} {j : Nat} (h : j < ns.length) : atI (ns.map V.int) ((j : Nat) : Int) = some (V.int (cel ns j)) := by
  refine atI_nat ?_
  unfold cel
  rw [List.getElem?_map, List.getElem?_eq_getElem h, List.getD_eq_getElem?_getD, List.getElem?_eq_getElem h]
  rfl
theorem cel_out {ns : List Int} {j : Nat} (h : ¬ j < ns.length) : cel ns j = 0 := by
  unfold cel
  rw [List.getD_eq_getElem?_getD, List.getElem?_eq_none (by omega)]
  rfl
/-- the item of a list of ints -/
theorem int_at {ns : List Int} {n : Nat} {x : V} (hx : (ns.map V.int)[n]? = some x) : ∃ z : Int, x = V.int z ∧ ns[n]? = some z := by
  rw [List.getElem?_map] at hx
  cases hz : ns[n]? with
  | none => rw [hz] at hx; cases hx
  | some z => rw [hz] at hx; exact ⟨z, (Option.some.inj hx).symm, rfl⟩
/-! comprehensions without a test: the whole list that they make -/
def Cm (H : Hp) (ys : List V) (Dl : Addr) (i : Nat) (H' : Hp) : Prop := H Dl = none ∧ Ex H H' ∧ H' Dl = some (.lst (ys.take i))
theorem take_snoc {ys : List V} {i : Nat} {y : V} (h : ys[i]? = some y) : ys.take (i + 1) = ys.take i ++ [y] := by
  rw [List.take_add_one, h]
  rfl
theorem cm_turn {H H' H2 : Hp} {ys : List V} {Dl : Addr} {i : Nat} {σ2 : L2.St} {y : V} (p : Cm H ys Dl i H') (e2 : Ex H' H2) (hi : ys[i]? = some y) (hz : ys.length ≤ 50000) (he : Ev te σ2 H y) :
    te σ2 H2 fun y H4 => ∃ acc, H4 Dl = some (.lst acc) ∧ acc.length < sizeLine ∧ Cm H ys Dl (i + 1) (upd H4 Dl (.lst (acc ++ [y]))) := by
  obtain ⟨p1, p2, p3⟩ := p
  refine he H2 (p2.trans e2) _ fun H4 e4 => ⟨ys.take i, e4 Dl _ (e2 Dl _ p3), sz_lt ?_, p1, Ex.mut ((p2.trans e2).trans e4) p1, ?_⟩
  · rw [List.length_take]
    omega
  · rw [take_snoc hi]
    exact upd_same
theorem cm_end {H H' : Hp} {ys : List V} {Dl : Addr} {n : Nat} (p : Cm H ys Dl n H') (hn : ys.length = n) : H' Dl = some (.lst ys) := by
  have := p.2.2
  rwa [List.take_of_length_le (by omega)] at this
theorem get_of {ys : List V} {i n : Nat} (hn : ys.length = n) (hi : i < n) : ∃ y, ys[i]? = some y := ⟨ys[i], List.getElem?_eq_getElem (by omega)⟩
/-- over a list -/
theorem el_mapL {a : Addr} {xs : List V} {tl : TE} {j : Nat} {vs : List Nat} (ys : List V) (h : Ev tl σ H (.ref a)) (hx : SqL K H a xs) (hn : ys.length = xs.length) (hz : xs.length ≤ 40000) (hw : ∀ x, wipe ((wipe σ vs).set j (some x)) vs = wipe σ vs)
    (he : ∀ (i : Nat) (x y : V) H1, Ex H H1 → xs[i]? = some x → ys[i]? = some y → Ev te ((wipe σ vs).set j (some x)) H1 y) : EvL (tLc (iList K tl) (gName j) tYes te vs) σ H ys := fun H0 e Q q => h H0 e _ fun H1 e1 => ⟨a, rfl, ⟨xs, ex_l (e.trans e1) hx⟩, fun Dl hD =>
  lc_list (xs := xs) (Cm H1 ys Dl) ⟨hD, Ex.new hD, upd_same⟩ (fun i H' _ p => ex_l ((e.trans e1).trans p.2.1) hx) (fun i x H' hi p => by
    obtain ⟨y, hy⟩ := get_of hn (List.getElem?_eq_some_iff.mp hi).1
    refine ⟨hw x, ?_⟩
    show te _ H' _
    exact cm_turn p (Ex.refl _) hy (by omega) (he i x y H1 (e.trans e1) hi hy)) (fun H' p => q Dl H' (fresh_back e1 p.1) (e1.trans p.2.1) (cm_end p hn))⟩
/-- over a range from 0 -/
theorem el_mapR {ta : TA} {j : Nat} {vs : List Nat} {n : Int} (ys : List V) (h : EvA ta σ H [.int n]) (hn : 0 ≤ n ∧ n ≤ 40000) (hl : ys.length = n.toNat) (hw : ∀ x, wipe ((wipe σ vs).set j (some x)) vs = wipe σ vs)
    (he : ∀ (i : Nat) (y : V) H1, Ex H H1 → (i : Int) < n → ys[i]? = some y → Ev te ((wipe σ vs).set j (some (.int (i : Int)))) H1 y) : EvL (tLc (iRng1 ta) (gName j) tYes te vs) σ H ys := fun H0 e Q q => h H0 e _ fun H1 e1 => ⟨n, rfl, by omega, by omega, fun Dl hD =>
  lc_range (lo := 0) (n := n.toNat) (Cm H1 ys Dl) ⟨hD, Ex.new hD, upd_same⟩ (fun i H' hi p => by
    obtain ⟨y, hy⟩ := get_of hl hi
    have e0 : (0 : Int) + (i : Int) = (i : Int) := Int.zero_add _
    show wipe ((wipe σ vs).set j (some (.int ((0 : Int) + (i : Int))))) vs = wipe σ vs ∧ te ((wipe σ vs).set j (some (.int ((0 : Int) + (i : Int))))) H' _
    rw [e0]
    exact ⟨hw _, cm_turn p (Ex.refl _) hy (by omega) (he i y H1 (e.trans e1) (by omega) hy)⟩) (fun H' p => q Dl H' (fresh_back e1 p.1) (e1.trans p.2.1) (cm_end p hl))⟩
/-- over zip of two lists, the target two names -/
theorem el_mapZ {ta : TA} {a b : Addr} {xs zs : List V} {i j : Nat} {vs : List Nat} (ys : List V) (h : EvA ta σ H [.ref a, .ref b]) (hx : SqL K H a xs) (hx2 : SqL K H b zs) (hl : xs.length = zs.length) (hn : ys.length = xs.length) (hz : xs.length ≤ 40000)
    (hw : ∀ x y, wipe (((wipe σ vs).set i (some x)).set j (some y)) vs = wipe σ vs)
    (he : ∀ (k : Nat) (x z y : V) H1, Ex H H1 → xs[k]? = some x → zs[k]? = some z → ys[k]? = some y → Ev te (((wipe σ vs).set i (some x)).set j (some z)) H1 y) : EvL (tLc (iZip K ta) (gTup K 2 (gCons (gName i) (gCons (gName j) gNil))) tYes te vs) σ H ys := fun H0 e Q q => h H0 e _ fun H1 e1 =>
  ⟨a, b, xs, zs, rfl, ex_l (e.trans e1) hx, ex_l (e.trans e1) hx2, fun Dl hD =>
  lc_it (walk_zip (n := xs.length) (by omega)) (Cm H1 ys Dl) ⟨hD, Ex.new hD, upd_same⟩ (fun k H' _ p => ⟨ex_l ((e.trans e1).trans p.2.1) hx, ex_l ((e.trans e1).trans p.2.1) hx2⟩) (fun k v H' H2 hk p yy => by
    obtain ⟨T, x, z, rfl, hT, rfl, g1, g2⟩ := yy
    obtain ⟨y, hy⟩ := get_of hn hk
    refine ⟨T, [x, z], rfl, st_of upd_same, rfl, x, [z], rfl, z, [], rfl, rfl, hw x z, ?_⟩
    show te _ _ _
    exact cm_turn p (Ex.new hT) hy (by omega) (he k x z y H1 (e.trans e1) g1 g2 hy)) (fun H' p => q Dl H' (fresh_back e1 p.1) (e1.trans p.2.1) (cm_end p hn))⟩
/-- a loop over zip of two lists, the target two names -/
theorem q_forZ {tz : TS} {D : Ends} {ta : TA} {tu : TS} {a b : Addr} {xs ys : List V} {i j : Nat} (h : EvA ta σ H [.ref a, .ref b]) (hx : SqL K H a xs) (hy : SqL K H b ys) (hl : xs.length = ys.length) (Pv : Nat → L2.St → Hp → Prop) (h0 : ∀ H1, Ex H H1 → Pv 0 σ H1)
    (hq : ∀ i σ' H', Pv i σ' H' → Ex H H')
    (hs : ∀ (n : Nat) (x y : V) (σ' : L2.St) (H' H2 : Hp), xs[n]? = some x → ys[n]? = some y → Pv n σ' H' → Ex H' H2 → tu { D with nx := Pv (n + 1), ct := Pv (n + 1), bk := tz D } ((σ'.set i (some x)).set j (some y)) H2) (hd : ∀ σ' H', Pv xs.length σ' H' → tz D σ' H') :
    tSeq (tFor (iZip K ta) (gTup K 2 (gCons (gName i) (gCons (gName j) gNil))) tu) tz D σ H :=
  h H (Ex.refl H) _ fun H1 e => ⟨a, b, xs, ys, rfl, ex_l e hx, ex_l e hy, for_it (walk_zip (n := xs.length) (by omega)) Pv (h0 H1 e) (fun k σ' H' _ p => ⟨ex_l (hq _ _ _ p) hx, ex_l (hq _ _ _ p) hy⟩) (fun n v σ' H' H2 hn p y => by
    obtain ⟨T, x, z, rfl, hT, rfl, e1, e2⟩ := y
    exact ⟨T, [x, z], rfl, st_of upd_same, rfl, x, [z], rfl, z, [], rfl, rfl, hs n x z σ' H' _ e1 e2 p (Ex.new hT)⟩) hd⟩
end
end SP

set_option maxHeartbeats 4000000
namespace SP
open PySem L2 Evl
/-- a text by its signs -/
def tx (l : List Nat) : Str := ⟨l.toArray⟩
theorem tx_cps (l : List Nat) : (tx l).cps.toList = l := by simp [tx]
theorem tx_len (l : List Nat) : (tx l).length = l.length := by simp [tx, Str.length]
theorem tx_app (a b : List Nat) : tx a ++ tx b = tx (a ++ b) := by
  show (⟨a.toArray ++ b.toArray⟩ : Str) = ⟨(a ++ b).toArray⟩
  simp
theorem tx_inj {a b : List Nat} (h : tx a = tx b) : a = b := by
  have := congrArg (fun z : Str => z.cps.toList) h
  simpa [tx] using this
theorem tx_one (c : Nat) : (⟨#[c]⟩ : Str) = tx [c] := rfl
theorem occ_count (x : Str) (c : Nat) : ∀ (k i : Nat) (st : Array Nat × Nat), i + k = x.cps.toList.length + 1 → st.fst.size ≤ i → st.snd ≤ i →
    (forIn (List.range' i k) st (StrLaws.occBody x ⟨#[c]⟩ x.length (x.length + 1))).run.fst.size = st.fst.size + (x.cps.toList.drop i).count c
  | 0, i, st, h, _, _ => by
    rw [List.drop_of_length_le (by omega)]
    rfl
  | k + 1, i, st, h, h1, h2 => by
    have hl : x.length = x.cps.toList.length := by simp [Str.length]
    rw [List.range'_succ, List.forIn_cons]
    unfold StrLaws.occBody
    have key := StrLaws.subAt_one x c i
    by_cases hc : x.cps.toList[i]? = some c
    · obtain ⟨k1, k2⟩ := key.mpr hc
      have hi : i < x.cps.toList.length := (List.getElem?_eq_some_iff.mp hc).1
      rw [if_pos ⟨⟨⟨by rw [hl]; omega, h2⟩, k1⟩, k2⟩]
      have ih := occ_count x c k (i + 1) (st.fst.push i, i + (⟨#[c]⟩ : Str).length) (by omega) (by simp; omega) (by show i + 1 ≤ i + 1; omega)
      refine Eq.trans ih ?_
      have e : x.cps.toList.drop i = c :: x.cps.toList.drop (i + 1) := by
        rw [List.drop_eq_getElem_cons hi]
        congr 1
        exact (List.getElem?_eq_some_iff.mp hc).2
      rw [e, List.count_cons]
      simp
      omega
    · rw [if_neg (fun z => hc (key.mp ⟨z.1.2, z.2⟩))]
      have ih := occ_count x c k (i + 1) st (by omega) (by omega) (by omega)
      refine Eq.trans ih ?_
      congr 1
      by_cases hi : i < x.cps.toList.length
      · rw [List.drop_eq_getElem_cons hi, List.count_cons, if_neg (fun z => hc (by rw [List.getElem?_eq_getElem hi, eq_of_beq z]))]
        rfl
      · rw [List.drop_of_length_le (by omega), List.drop_of_length_le (by omega)]
theorem count_one (l : List Nat) (c : Nat) : Txt.count (tx l) (tx [c]) = ((l.count c : Nat) : Int) := by
  show (((Builtin.Str.occurrences (tx l) ⟨#[c]⟩ 0 (tx l).length ((tx l).length + 1)).length : Nat) : Int) = _
  rw [StrLaws.occ_eq, Array.length_toList]
  have h := occ_count (tx l) c ((tx l).length + 1) 0 (#[], 0) (by rw [tx_cps, tx_len]; omega) (Nat.le_refl _) (Nat.le_refl _)
  rw [tx_cps, List.drop_zero] at h
  exact congrArg (fun n : Nat => (n : Int)) (h.trans (by simp))
theorem join_ones : ∀ l : List Nat, Txt.join (tx []) (l.map fun c => tx [c]) = tx l := fun l => by
  show Builtin.Str.glued _ _ = _
  rw [StrLaws.glued_eq_join]
  induction l with
  | nil => rfl
  | cons a r ih =>
    cases r with
    | nil => rfl
    | cons b r =>
      show tx [a] ++ tx [] ++ Str.join (tx []) ((b :: r).map fun c => tx [c]) = tx (a :: b :: r)
      rw [ih, tx_app, tx_app]
      rfl
section
variable {K : PySem.W.Frag} {σ : L2.St} {H H' : Hp} {ta tb te tx' : TE} {t u : TT} {x y z v : V}
/-- a method of a text -/
theorem ev_bmS {r : V → List V → Hp → VK → Prop} {s : Str} {ta : TA} {vs : List V} (ho : Ev te σ H (.str s)) (ha : EvA ta σ H vs) (hr : ∀ H1, Ex H H1 → ∀ Q : VK, (∀ H2, Ex H1 H2 → Q z H2) → r (.str s) vs H1 Q) : Ev (tBM K "str" r te ta) σ H z := fun H1 e Q q =>
  ho H1 e _ fun H2 e2 => ⟨rfl, ha H2 (e.trans e2) _ fun H3 e3 => hr H3 ((e.trans e2).trans e3) Q fun H4 e4 => q H4 ((e2.trans e3).trans e4)⟩
/-- sep.join(a new list of texts) -/
theorem ev_joinN {sep : Str} {ys : List Str} (ho : Ev te σ H (.str sep)) (hl : EvL tb σ H (ys.map V.str)) (hz : (ys.map (·.length)).sum + ys.length * sep.length ≤ 16777216) :
    Ev (tBM K "str" (fun x xs H Q => ∃ a p, ∃ ys : List Str, x = .str a ∧ xs = [.ref p] ∧ (SqL K H p (ys.map V.str) ∨ SqT K H p (ys.map V.str)) ∧ (ys.map (·.length)).sum + ys.length * a.length ≤ 16777216 ∧ Q (.str (Txt.join a ys)) H) te (tCons tb tNil)) σ H (.str (Txt.join sep ys)) := fun H1 e Q q =>
  ho H1 e _ fun H2 e2 => ⟨rfl, hl H2 (e.trans e2) _ fun p H3 _ e3 h3 => ⟨sep, p, ys, rfl, rfl, .inl (sq_of h3), hz, q H3 (e2.trans e3)⟩⟩
/-- a for over a text, the target a name -/
theorem q_forS {tz : TS} {D : Ends} {tu : TS} {j : Nat} {l : List Nat} (h : Ev te σ H (.str (tx l))) (Pv : Nat → L2.St → Hp → Prop) (h0 : ∀ H1, Ex H H1 → Pv 0 σ H1)
    (hs : ∀ (n : Nat) (c : Nat) (σ' : L2.St) (H' : Hp), l[n]? = some c → Pv n σ' H' → tu { D with nx := Pv (n + 1), ct := Pv (n + 1), bk := tz D } (σ'.set j (some (.str (tx [c])))) H') (hd : ∀ σ' H', Pv l.length σ' H' → tz D σ' H') :
    tSeq (tFor (iStr te) (gName j) tu) tz D σ H :=
  h H (Ex.refl H) _ fun H1 e => ⟨tx l, rfl, for_it walk_str Pv (h0 H1 e) (fun _ _ _ _ _ => True.intro) (fun n v σ' H' H2 hn p y => by
    obtain ⟨rfl, c, hc, rfl⟩ := y
    refine hs n c σ' H2 ?_ p
    rw [← hc]
    simp [tx]) (by
    have e : (tx l).cps.size = l.length := by simp [tx]
    rw [e]
    exact hd)⟩
theorem s_forS {D : Ends} {tu : TS} {j : Nat} {l : List Nat} (h : Ev te σ H (.str (tx l))) (Pv : Nat → L2.St → Hp → Prop) (h0 : ∀ H1, Ex H H1 → Pv 0 σ H1)
    (hs : ∀ (n : Nat) (c : Nat) (σ' : L2.St) (H' : Hp), l[n]? = some c → Pv n σ' H' → tu { D with nx := Pv (n + 1), ct := Pv (n + 1), bk := D.nx } (σ'.set j (some (.str (tx [c])))) H') (hd : ∀ σ' H', Pv l.length σ' H' → D.nx σ' H') :
    tFor (iStr te) (gName j) tu D σ H := q_forS (tz := fun D => D.nx) h Pv h0 hs hd
/-- a comprehension over a text -/
theorem el_mapS {j : Nat} {vs : List Nat} {l : List Nat} (ys : List V) (h : Ev tb σ H (.str (tx l))) (hn : ys.length = l.length) (hz : l.length ≤ 40000) (hw : ∀ x, wipe ((wipe σ vs).set j (some x)) vs = wipe σ vs)
    (he : ∀ (i c : Nat) (y : V) H1, Ex H H1 → l[i]? = some c → ys[i]? = some y → Ev te ((wipe σ vs).set j (some (.str (tx [c])))) H1 y) : EvL (tLc (iStr tb) (gName j) tYes te vs) σ H ys := fun H0 e Q q => h H0 e _ fun H1 e1 => ⟨tx l, rfl, fun Dl hD =>
  lc_it walk_str (Cm H1 ys Dl) ⟨hD, Ex.new hD, upd_same⟩ (fun _ _ _ _ => True.intro) (fun i v H' H2 hi p yy => by
    obtain ⟨rfl, c, hc, rfl⟩ := yy
    have hc' : l[i]? = some c := by
      rw [← hc]
      simp [tx]
    obtain ⟨y, hy⟩ := get_of hn (List.getElem?_eq_some_iff.mp hc').1
    refine ⟨hw _, ?_⟩
    show te _ H2 _
    exact cm_turn p (Ex.refl _) hy (by omega) (he i c y H1 (e.trans e1) hc' hy)) (fun H' p => by
    have ec : (tx l).cps.size = l.length := by simp [tx]
    rw [ec] at p
    exact q Dl H' (fresh_back e1 p.1) (e1.trans p.2.1) (cm_end p hn))⟩
end
end SP

namespace SP
open PySem L2 Evl
def top (i : Nat) : Stmt := PySem.Challenge.pw_sharepack_k02_signs_counted.main.body.getD i (.Pass ⟨0, 0, 0, 0⟩)
abbrev s_counted : Stmt := top 1
theorem sc_counted : FnScope ["signs", "block", "sign"] ["signs", "block"] (defScope s_counted) := ⟨rfl, rfl, rfl, by decide +kernel, rfl, by decide +kernel, by decide +kernel⟩
abbrev s_whole : Stmt := top 3
theorem sc_whole : FnScope ["_law_found"] ["_law_found"] (defScope s_whole) := ⟨rfl, rfl, rfl, by decide +kernel, rfl, by decide +kernel, by decide +kernel⟩
abbrev s_cell_at : Stmt := top 4
theorem sc_cell_at : FnScope ["_law_script", "_law_k"] ["_law_script", "_law_k"] (defScope s_cell_at) := ⟨rfl, rfl, rfl, by decide +kernel, rfl, by decide +kernel, by decide +kernel⟩
abbrev s_many_by : Stmt := top 5
theorem sc_many_by : FnScope ["_law_cell"] ["_law_cell"] (defScope s_many_by) := ⟨rfl, rfl, rfl, by decide +kernel, rfl, by decide +kernel, by decide +kernel⟩
abbrev s_signs_by : Stmt := top 6
theorem sc_signs_by : FnScope ["_law_cell", "_law_many", "_law_some", "_law_step", "_law_k"] ["_law_cell", "_law_many"] (defScope s_signs_by) := ⟨rfl, rfl, rfl, by decide +kernel, rfl, by decide +kernel, by decide +kernel⟩
abbrev s_numbers_alike : Stmt := top 7
theorem sc_numbers_alike : FnScope ["_law_found", "_law_due", "_law_one", "_law_own"] ["_law_found", "_law_due"] (defScope s_numbers_alike) := ⟨rfl, rfl, rfl, by decide +kernel, rfl, by decide +kernel, by decide +kernel⟩
abbrev s_counts_by : Stmt := top 8
theorem sc_counts_by : FnScope ["_law_signs", "_law_block", "_law_found", "_law_sign", "_law_many", "_law_one"] ["_law_signs", "_law_block"] (defScope s_counts_by) := ⟨rfl, rfl, rfl, by decide +kernel, rfl, by decide +kernel, by decide +kernel⟩
abbrev s_law : Stmt := top 9
theorem sc_law : FnScope ["_law_script", "_law_many", "_law_signs", "_law_block", "_law_k", "_law_cell"] ["_law_script"] (defScope s_law) := ⟨rfl, rfl, rfl, by decide +kernel, rfl, by decide +kernel, by decide +kernel⟩
structure Txt (K : PySem.W.Frag) (mg : Str → Option Value) : Prop where
  b_bool : mg "bool" = none
  b_int : mg "int" = none
  b_isinstance : mg "isinstance" = none
  b_len : mg "len" = none
  b_list : mg "list" = none
  b_range : mg "range" = none
  b_zip : mg "zip" = none
section
variable {P : Program} {w : World} {K : PySem.W.Frag} {mg : Str → Option Value} {base : Heap}
def sp_law (K : PySem.W.Frag) : Sp := fun vs H Q _ => ∃ (a : Addr) (ns : List Int), vs = [.ref a] ∧ SqL K H a (ns.map V.int) ∧ ns.length ≤ 63 ∧ RetV (.bl true) H Q
theorem law_start {H : Hp} {a : Addr} {ns : List Int} (hl : ns.length ≤ 63) (hS : SqL K H a (ns.map V.int)) : sp_law K [.ref a] H (fun v _ => v = .bl true) (fun _ _ _ => False) := ⟨a, ns, rfl, hS, hl, fun _ _ => rfl⟩
def sp_whole : Sp := fun vs H Q _ => ∃ i : Int, vs = [.int i] ∧ RetV (.bl true) H Q
theorem ok_whole {f : Addr} {fd : FuncData} (T : Txt K mg) (F : Fun K "_law_whole" "_law_whole" s_whole f fd) : FnOk P w K mg base CX0 1 f fd ["_law_found"] sp_whole := by
  refine F.ok sc_whole (fun vs H Q E h => by obtain ⟨i, rfl, _⟩ := h; rfl) (fun cdv A outer s H vs Q E hr h => ?_)
  obtain ⟨i, rfl, q⟩ := h
  refine ⟨_, (pss_one (ps_ret (pe_and (pe_callB call_isi (by rfl) T.b_isinstance (by decide +kernel) (pa_cons (pv 0) (pa_cons (pe_bltn (v := .ty "int") (by rfl) T.b_int (by decide +kernel) rfl) pa_nil))) (pe_one (pe_not (pe_callB call_isi (by rfl) T.b_isinstance (by decide +kernel) (pa_cons (pv 0) (pa_cons (pe_bltn (v := .ty "bool") (by rfl) T.b_bool (by decide +kernel) rfl) pa_nil)))))))), ?_⟩
  exact s_ret (ev_andV (b := true) (ev_isi (ev_var rfl) ev_c (fun _ _ => ty_int) (b := true) (by decide +kernel)) fun _ => ev_notV (ev_isi (ev_var rfl) ev_c (fun _ _ => ty_int) (b := false) (by decide +kernel))) fun H1 e1 => q H1 e1
def sp_cell (K : PySem.W.Frag) : Sp := fun vs H Q _ => ∃ (a : Addr) (ns : List Int) (j : Nat), vs = [.ref a, .int (j : Int)] ∧ SqL K H a (ns.map V.int) ∧ RetV (.int (cel ns j)) H Q
theorem spv_cell {H : Hp} {a : Addr} {ns : List Int} {j : Nat} {i : Int} (hs : SqL K H a (ns.map V.int)) (e : i = (j : Int)) : SpV (sp_cell K) [.ref a, .int i] H (.int (cel ns j)) :=
  spv fun H1 e1 Q E q => ⟨a, ns, j, by rw [e], ex_l e1 hs, q⟩
theorem ok_cell_at {f : Addr} {fd : FuncData} (T : Txt K mg) (F : Fun K "_law_cell_at" "_law_cell_at" s_cell_at f fd) : FnOk P w K mg base CX0 1 f fd ["_law_script", "_law_k"] (sp_cell K) := by
  refine F.ok sc_cell_at (fun vs H Q E h => by obtain ⟨a, ns, j, rfl, _⟩ := h; rfl) (fun cdv A outer s H vs Q E hr h => ?_)
  obtain ⟨a, ns, j, rfl, hs, q⟩ := h
  refine ⟨_, (pss_cons (ps_if (pt_cmpR op_lt (pv 1) (pe_callB call_len_seq (by rfl) T.b_len PySem.boot_len (pa_cons (pv 0) pa_nil)) (nomark _)) (pss_one (ps_ret (pe_ix ix_list (pv 0) (pv 1) (fun _ _ => rfl)))) pss_nil)
      (pss_one (ps_ret pe_int))), ?_⟩
  refine q_when (et_test (ev_op (ev_var rfl) (ev_lenL (ev_var rfl) hs) rv_I0)) (fun hb H1 e1 => ?_) (fun hb H1 e1 => ?_)
  · have hj : j < ns.length := by
      have h1 := of_decide_eq_true hb
      rw [List.length_map] at h1
      omega
    exact s_ret (ev_op (ev_var rfl) (ev_var rfl) (rv_ixL (ex_l e1 hs) (cel_in hj))) fun H2 e2 => q H2 (e1.trans e2)
  · have hj : ¬ j < ns.length := by
      have h1 := of_decide_eq_false hb
      rw [List.length_map] at h1
      omega
    rw [cel_out hj] at q
    exact s_ret ev_c fun H2 e2 => q H2 (e1.trans e2)
def manyOf (c : Int) : Int := if c / 6 % 5 = 1 then 1 + c / 30 % 40 else 1 + c % 6
theorem manyOf_pos (c : Int) : 1 ≤ manyOf c ∧ manyOf c ≤ 40 := by
  unfold manyOf
  split
  · omega
  · omega
def sp_many : Sp := fun vs H Q _ => ∃ c : Int, vs = [.int c] ∧ RetV (.int (manyOf c)) H Q
theorem ok_many_by {f : Addr} {fd : FuncData} (T : Txt K mg) (F : Fun K "_law_many_by" "_law_many_by" s_many_by f fd) : FnOk P w K mg base CX0 1 f fd ["_law_cell"] sp_many := by
  refine F.ok sc_many_by (fun vs H Q E h => by obtain ⟨c, rfl, _⟩ := h; rfl) (fun cdv A outer s H vs Q E hr h => ?_)
  obtain ⟨c, rfl, q⟩ := h
  refine ⟨_, (pss_cons (ps_if (pt_cmpR op_eq (pe_op op_mod (pe_op op_fdiv (pv 0) pe_int) pe_int) pe_int (nomark _)) (pss_one (ps_ret (pe_op op_add pe_int (pe_op op_mod (pe_op op_fdiv (pv 0) pe_int) pe_int)))) pss_nil)
      (pss_one (ps_ret (pe_op op_add pe_int (pe_op op_mod (pv 0) pe_int))))), ?_⟩
  refine q_when (et_test (ev_op (ev_op (ev_op (ev_var rfl) ev_c (rv_fdiv (by decide))) ev_c (rv_mod (by decide))) ev_c (rv_eq rfl))) (fun hb H1 e1 => ?_) (fun hb H1 e1 => ?_)
  · have hc : c / 6 % 5 = 1 := V.int.inj (of_decide_eq_true hb)
    refine s_ret (ev_op ev_c (ev_op (ev_op (ev_var rfl) ev_c (rv_fdiv (by decide))) ev_c (rv_mod (by decide))) rv_I0) fun H2 e2 => ?_
    have := q H2 (e1.trans e2)
    unfold manyOf at this
    rw [if_pos hc] at this
    exact this
  · have hc : ¬ c / 6 % 5 = 1 := fun z => of_decide_eq_false hb (by rw [z])
    refine s_ret (ev_op ev_c (ev_op (ev_var rfl) ev_c (rv_mod (by decide))) rv_I0) fun H2 e2 => ?_
    have := q H2 (e1.trans e2)
    unfold manyOf at this
    rw [if_neg hc] at this
    exact this
def sp_alike (K : PySem.W.Frag) : Sp := fun vs H Q _ => ∃ (a b : Addr) (ns : List Int), vs = [.ref a, .ref b] ∧ H a = some (.lst (ns.map V.int)) ∧ H b = some (.lst (ns.map V.int)) ∧ RetV (.bl true) H Q
theorem spv_alike {H : Hp} {a b : Addr} {ns : List Int} (ha : H a = some (.lst (ns.map V.int))) (hb : H b = some (.lst (ns.map V.int))) : SpV (sp_alike K) [.ref a, .ref b] H (.bl true) :=
  spv fun H1 e1 Q E q => ⟨a, b, ns, rfl, e1 _ _ ha, e1 _ _ hb, q⟩
theorem ok_numbers_alike {f : Addr} {fd : FuncData} (T : Txt K mg) (F : Fun K "_law_numbers_alike" "_law_numbers_alike" s_numbers_alike f fd) (C__law_whole : Cal P w K mg base "_law_whole" ["_law_found"] 1 sp_whole) : FnOk P w K mg base CX0 2 f fd ["_law_found", "_law_due"] (sp_alike K) := by
  refine F.ok sc_numbers_alike (fun vs H Q E h => by obtain ⟨a, b, ns, rfl, _⟩ := h; rfl) (fun cdv A outer s H vs Q E hr h => ?_)
  obtain ⟨a, b, ns, rfl, ha, hb, q⟩ := h
  refine ⟨_, (pss_cons (ps_if (PW.pt (pw_or (pt_not (pt_val (pe_callB call_isi (by rfl) T.b_isinstance (by decide +kernel) (pa_cons (pv 0) (pa_cons (pe_bltn (v := .ty "list") (by rfl) T.b_list (by decide +kernel) rfl) pa_nil))))) (pw_or1 (pt_cmpR op_ne (pe_callB call_len_seq (by rfl) T.b_len PySem.boot_len (pa_cons (pv 0) pa_nil)) (pe_callB call_len_seq (by rfl) T.b_len PySem.boot_len (pa_cons (pv 1) pa_nil)) (nomark _))))) (pss_one (ps_ret pe_bl)) pss_nil)
      (pss_cons (ps_for PassesOwn.never rfl (pi_zip (by rfl) T.b_zip (pa_cons (pv 0) (pa_cons (pv 1) pa_nil))) (pg_tup rfl (pgs_cons (pg_name (i := 2) sc_numbers_alike.nd rfl (Or.inl rfl)) (pgs_cons (pg_name (i := 3) sc_numbers_alike.nd rfl (Or.inl rfl)) pgs_nil))) (pss_one (ps_if (PW.pt (pw_or (pt_not (pt_val (pe_cal C__law_whole hr (by decide) (by rfl) (pa_cons (pv 2) pa_nil)))) (pw_or1 (pt_cmpR op_ne (pv 2) (pv 3) (nomark _))))) (pss_one (ps_ret pe_bl)) pss_nil)))
      (pss_one (ps_ret pe_bl)))), ?_⟩
  refine q_when (b := false) (et_or (a := false) (et_not (a := true) (et_B (ev_isi (ev_var rfl) ev_c (fun _ e => ty_lst (e _ _ ha)) (by decide +kernel)))) fun _ => et_is (et_test (ev_op (ev_lenL (ev_var rfl) (sq_of ha)) (ev_lenL (ev_var rfl) (sq_of hb)) (rv_ne rfl))) (by simp)) (fun hx => nomatch hx) (fun _ H1 e1 => ?_)
  refine q_forZ (ea_cons (ev_var rfl) (ea_cons (ev_var rfl) ea_nil)) (sq_of (e1 _ _ ha)) (sq_of (e1 _ _ hb)) rfl (fun i σ' H' => Ex H1 H' ∧ ∃ y1 y2, σ' = [some (.ref a), some (.ref b), y1, y2]) (fun H2 e2 => ⟨e2, none, none, rfl⟩) (fun i σ' H' p => p.1) (fun n x y σ' H' H2 hx hy p e2 => ?_) (fun σ' H' p => ?_)
  · obtain ⟨e3, y1, y2, rfl⟩ := p
    have exy : y = x := Option.some.inj (hy.symm.trans hx)
    subst exy
    obtain ⟨z, rfl, _⟩ := int_at hx
    refine s_when (b := false) (et_or (a := false) (et_not (a := true) (et_B (ev_cal (ea_cons (ev_var rfl) ea_nil) (spv fun H3 _ Q E q => ⟨z, rfl, q⟩)))) fun _ => et_is (et_test (ev_op (ev_var rfl) (ev_var rfl) (rv_ne rfl))) (by simp)) (fun hx => nomatch hx) (fun _ H3 e4 => ?_)
    exact ⟨(e3.trans e2).trans e4, some (.int z), some (.int z), rfl⟩
  · obtain ⟨e3, y1, y2, rfl⟩ := p
    exact s_ret ev_c fun H3 e4 => q H3 ((e1.trans e3).trans e4)
def countsOf (ss bs : List Nat) : List Int := ss.map fun c => ((bs.count c : Nat) : Int)
def sp_counted : Sp := fun vs H Q _ => ∃ ss bs : List Nat, vs = [.str (tx ss), .str (tx bs)] ∧ ss.length ≤ 1000 ∧ RetL ((countsOf ss bs).map V.int) H Q
theorem ok_counted {f : Addr} {fd : FuncData} (T : Txt K mg) (F : Fun K "counted" "counted" s_counted f fd) : FnOk P w K mg base CX0 1 f fd ["signs", "block"] sp_counted := by
  refine F.ok sc_counted (fun vs H Q E h => by obtain ⟨ss, bs, rfl, _⟩ := h; rfl) (fun cdv A outer s H vs Q E hr h => ?_)
  obtain ⟨ss, bs, rfl, hl, q⟩ := h
  refine ⟨_, (pss_one (ps_ret (pe_lc (own := [("sign", 2)]) (g := (gName 2)) (tt := tYes) rfl sc_counted.nd (pi_str (pv 0)) (blkOk_by (N := ["signs", "block", "sign"]) (sc := defScope s_counted) (by decide +kernel)) (fun _ _ _ _ _ => (pg_name (i := 2) sc_counted.nd rfl (Or.inl rfl))) (fun _ _ _ _ _ => pts_nil) (fun _ _ _ _ _ => (pe_bmK (K := K) rfl PySem.F.plainAttrs_str PySem.F.slot_str_count PySem.F.type_str_count mt_count (pv 1) (pa_cons (pv 2) pa_nil)))))), ?_⟩
  refine s_retL (el_mapS ((countsOf ss bs).map V.int) (ev_var rfl) (by simp [countsOf]) (by omega) (fun _ => rfl) (fun i c y H1 e1 h1 h2 => ?_)) fun p H1 hp e1 h1 => q p H1 hp e1 h1
  obtain ⟨z, rfl, h3⟩ := int_at h2
  unfold countsOf at h3
  rw [List.getElem?_map, h1] at h3
  cases h3
  exact ev_is (ev_bmS (ev_var rfl) (ea_cons (ev_var rfl) ea_nil) (z := .int (Txt.count (tx bs) (tx [c]))) fun H2 _ Q q => ⟨_, _, rfl, rfl, q H2 (Ex.refl _)⟩) (by rw [count_one])
def all94 : List Nat := (List.range 5).map (· + 32) ++ (List.range 89).map (· + 38)
theorem all94_len : all94.length = 94 := by decide
def signsOf (c : Int) (m : Nat) : List Nat := (List.range m).map fun k : Nat => all94.getD ((c + (k : Int) * (1 + 2 * (c / 94 % 23))) % 94).toNat 0
theorem signsOf_len (c : Int) (m : Nat) : (signsOf c m).length = m := by simp [signsOf]
theorem signs_at {c : Int} {m i : Nat} {y : V} (h : ((signsOf c m).map fun d => V.str (tx [d]))[i]? = some y) : y = V.str (tx [all94.getD ((c + (i : Int) * (1 + 2 * (c / 94 % 23))) % 94).toNat 0]) := by
  unfold signsOf at h
  rw [List.map_map, List.getElem?_map] at h
  cases hz : (List.range m)[i]? with
  | none => rw [hz] at h; cases h
  | some z =>
    rw [hz] at h
    obtain ⟨h1, h2⟩ := List.getElem?_eq_some_iff.mp hz
    rw [List.getElem_range] at h2
    subst h2
    exact (Option.some.inj h).symm
def sp_signs : Sp := fun vs H Q _ => ∃ (c : Int) (m : Nat), vs = [.int c, .int (m : Int)] ∧ m ≤ 40 ∧ RetV (.str (tx (signsOf c m))) H Q
theorem some94 : (PySem.Str.ofString " !\"#$&'()*+,-./0123456789:;<=>?@ABCDEFGHIJKLMNOPQRSTUVWXYZ[\\]^_`" ++ PySem.Str.ofString "abcdefghijklmnopqrstuvwxyz{|}~") = tx all94 := by decide +kernel
theorem all94_at {i : Int} (h1 : 0 ≤ i) (h2 : i < 94) : atI (tx all94).cps.toList i = some (all94.getD i.toNat 0) := by
  rw [tx_cps]
  have e : i = ((i.toNat : Nat) : Int) := by omega
  rw [e]
  unfold atI ixN
  have hlt : i.toNat < all94.length := by rw [all94_len]; omega
  rw [if_pos (by omega), if_pos (by omega)]
  show all94[((i.toNat : Nat) : Int).toNat]? = _
  rw [show ((i.toNat : Nat) : Int).toNat = i.toNat by omega, List.getElem?_eq_getElem hlt, List.getD_eq_getElem?_getD, List.getElem?_eq_getElem hlt]
  rfl
theorem ones_sum (l : List Nat) : ((l.map fun c => tx [c]).map (·.length)).sum = l.length := by
  induction l with
  | nil => rfl
  | cons a r ih =>
    rw [List.map_cons, List.map_cons, List.sum_cons, ih, tx_len, List.length_cons, List.length_cons]
    simp
    omega
theorem ok_signs_by {f : Addr} {fd : FuncData} (T : Txt K mg) (F : Fun K "_law_signs_by" "_law_signs_by" s_signs_by f fd) : FnOk P w K mg base CX0 1 f fd ["_law_cell", "_law_many"] sp_signs := by
  refine F.ok sc_signs_by (fun vs H Q E h => by obtain ⟨c, m, rfl, _⟩ := h; rfl) (fun cdv A outer s H vs Q E hr h => ?_)
  obtain ⟨c, m, rfl, hm, q⟩ := h
  refine ⟨_, (pss_cons (ps_set (i := 2) sc_signs_by.nd rfl (Or.inr rfl) pe_str)
      (pss_cons (ps_set (i := 2) sc_signs_by.nd rfl (Or.inr rfl) (pe_op op_add_str (pv 2) pe_str))
      (pss_cons (ps_set (i := 3) sc_signs_by.nd rfl (Or.inr rfl) (pe_op op_add pe_int (pe_op op_mul pe_int (pe_op op_mod (pe_op op_fdiv (pv 0) pe_int) pe_int))))
      (pss_one (ps_ret (pe_bm PySem.F.plainAttrs_str PySem.F.slot_str_join PySem.F.type_str_join mt_join pe_str (pa_cons (pe_lc (own := [("_law_k", 4)]) (g := (gName 4)) (tt := tYes) rfl sc_signs_by.nd (pi_range1 (by rfl) T.b_range (pa_cons (pv 1) pa_nil)) (blkOk_by (N := ["_law_cell", "_law_many", "_law_some", "_law_step", "_law_k"]) (sc := defScope s_signs_by) (by decide +kernel)) (fun _ _ _ _ _ => (pg_name (i := 4) sc_signs_by.nd rfl (Or.inl rfl))) (fun _ _ _ _ _ => pts_nil) (fun _ _ _ _ _ => (pe_ix ix_str (pv 2) (pe_op op_mod (pe_op op_add (pv 0) (pe_op op_mul (pv 4) (pv 3))) pe_int) (fun _ _ => rfl)))) pa_nil))))))), ?_⟩
  refine q_asg ev_c fun H1 e1 => ?_
  refine q_asg (ev_is (ev_op (ev_var rfl) ev_c (rv_addS (by decide +kernel))) (w := .str (tx all94)) (congrArg V.str some94)) fun H2 e2 => ?_
  refine q_asg (ev_op ev_c (ev_op ev_c (ev_op (ev_op (ev_var rfl) ev_c (rv_fdiv (by decide))) ev_c (rv_mod (by decide))) (rv_mul (.inl (by decide)))) rv_I0) fun H3 e3 => ?_
  have jn := join_ones (signsOf c m)
  refine s_ret (ev_is (ev_joinN (ys := (signsOf c m).map fun c => tx [c]) (sep := tx []) ev_c ?_ ?_) (w := .str (tx (signsOf c m))) (by rw [jn])) fun H4 e4 => q H4 (((e1.trans e2).trans e3).trans e4)
  · rw [List.map_map]
    refine el_mapR _ (ea_cons (ev_var rfl) ea_nil) ⟨by omega, by omega⟩ (by simp [signsOf_len]) (fun _ => rfl) (fun i y H4 e4 hi hy => ?_)
    have ey := signs_at hy
    subst ey
    refine ev_op (ev_var rfl) (ev_op (ev_op (ev_var rfl) (ev_op (ev_var rfl) (ev_var rfl) (rv_mul (.inl ⟨by omega, by omega⟩))) rv_I0) ev_c (rv_mod (by decide))) (rv_ixS (by rw [tx_len, all94_len]; omega) (all94_at (by omega) (by omega)))
  · rw [ones_sum, signsOf_len, List.length_map, signsOf_len]
    show m + m * 0 ≤ 16777216
    omega
def sp_countsB : Sp := fun vs H Q _ => ∃ ss bs : List Nat, vs = [.str (tx ss), .str (tx bs)] ∧ ss.length ≤ 1000 ∧ RetL ((countsOf ss bs).map V.int) H Q
theorem count_take {bs : List Nat} {i c d : Nat} (h : bs[i]? = some d) : (bs.take (i + 1)).count c = (bs.take i).count c + if d = c then 1 else 0 := by
  rw [List.take_add_one, h, List.count_append]
  show _ + [d].count c = _
  rw [List.count_cons, List.count_nil]
  by_cases e : d = c
  · rw [if_pos e, if_pos (by rw [e]; simp)]
  · rw [if_neg e, if_neg (by simpa using e)]
theorem str_one_eq {c d : Nat} : decide (V.str (tx [c]) = V.str (tx [d])) = decide (c = d) := by
  by_cases e : c = d
  · rw [e, decide_eq_true rfl, decide_eq_true rfl]
  · rw [decide_eq_false e, decide_eq_false fun z => e (by have := tx_inj (V.str.inj z); simpa using this)]
theorem counts_take {ss bs : List Nat} {n c : Nat} (h : ss[n]? = some c) : ((countsOf ss bs).map V.int).take (n + 1) = ((countsOf ss bs).map V.int).take n ++ [.int ((bs.count c : Nat) : Int)] := by
  refine take_snoc ?_
  unfold countsOf
  rw [List.getElem?_map, List.getElem?_map, h]
  rfl
theorem ok_counts_by {f : Addr} {fd : FuncData} (T : Txt K mg) (F : Fun K "_law_counts_by" "_law_counts_by" s_counts_by f fd) : FnOk P w K mg base CX0 1 f fd ["_law_signs", "_law_block"] sp_countsB := by
  refine F.ok sc_counts_by (fun vs H Q E h => by obtain ⟨ss, bs, rfl, _⟩ := h; rfl) (fun cdv A outer s H vs Q E hr h => ?_)
  obtain ⟨ss, bs, rfl, hl, q⟩ := h
  refine ⟨_, (pss_cons (ps_set (i := 2) sc_counts_by.nd rfl (Or.inl rfl) (pe_lst pa_nil))
      (pss_cons (ps_for PassesOwn.never rfl (pi_str (pv 0)) (pg_name (i := 3) sc_counts_by.nd rfl (Or.inl rfl)) (pss_cons (ps_set (i := 4) sc_counts_by.nd rfl (Or.inl rfl) pe_int)
      (pss_cons (ps_for PassesOwn.never rfl (pi_str (pv 1)) (pg_name (i := 5) sc_counts_by.nd rfl (Or.inl rfl)) (pss_one (ps_if (pt_cmpR op_eq (pv 5) (pv 3) (nomark _)) (pss_one (ps_set (i := 4) sc_counts_by.nd rfl (Or.inl rfl) (pe_op op_add (pv 4) pe_int))) pss_nil)))
      (pss_one (ps_expr (pe_bm PySem.F.plainAttrs_list PySem.F.slot_list_append PySem.F.type_list_append mt_append (pv 2) (pa_cons (pv 4) pa_nil)))))))
      (pss_one (ps_ret (pv 2))))), ?_⟩
  refine q_asgL (el_lst ea_nil (by decide)) fun p H1 hp e1 h1 => ?_
  refine q_forS (ev_var rfl) (fun n σ' H' => Ex H H' ∧ H' p = some (.lst (((countsOf ss bs).map V.int).take n)) ∧ ∃ y1 y2 y3, σ' = [some (.str (tx ss)), some (.str (tx bs)), some (.ref p), y1, y2, y3]) (fun H2 e2 => ⟨e1.trans e2, e2 _ _ h1, _, _, _, rfl⟩) (fun n c σ' H' hc w => ?_) (fun σ' H' w => ?_)
  · obtain ⟨f1, f2, y1, y2, y3, rfl⟩ := w
    refine q_asg ev_c fun H3 e3 => ?_
    refine q_forS (ev_var rfl) (fun i σ' H' => Ex H3 H' ∧ ∃ y3, σ' = [some (.str (tx ss)), some (.str (tx bs)), some (.ref p), some (.str (tx [c])), some (.int (((bs.take i).count c : Nat) : Int)), y3]) (fun H4 e4 => ⟨e4, _, rfl⟩) (fun i d σ' H' hd w => ?_) (fun σ' H' w => ?_)
    · obtain ⟨g1, z3, rfl⟩ := w
      have ct := count_take (c := c) hd
      refine s_when (et_is (et_test (ev_op (ev_var rfl) (ev_var rfl) (rv_eq rfl))) (b := decide (d = c)) str_one_eq) (fun hb H5 e5 => ?_) (fun hb H5 e5 => ?_)
      · have hb := of_decide_eq_true hb
        rw [if_pos hb] at ct
        refine s_asg (ev_op (ev_var rfl) ev_c rv_I0) fun H6 e6 => ⟨(g1.trans e5).trans e6, some (.str (tx [d])), ?_⟩
        rw [ct]
        rfl
      · have hb := of_decide_eq_false hb
        rw [if_neg hb] at ct
        refine ⟨g1.trans e5, some (.str (tx [d])), ?_⟩
        rw [ct]
        rfl
    · obtain ⟨g1, z3, rfl⟩ := w
      rw [List.take_length]
      refine s_app (xs := ((countsOf ss bs).map V.int).take n) ((e3.trans g1) _ _ f2) (ev_var rfl) (ev_var rfl) ?_ fun H5 e5 => ⟨?_, ?_, _, _, _, rfl⟩
      · rw [List.length_take]
        have : ((countsOf ss bs).map V.int).length = ss.length := by simp [countsOf]
        omega
      · exact Ex.mut (((f1.trans e3).trans g1).trans e5) hp
      · rw [counts_take hc]
        exact upd_same
  · obtain ⟨f1, f2, y1, y2, y3, rfl⟩ := w
    rw [List.take_of_length_le (by simp [countsOf])] at f2
    exact s_ret (ev_var rfl) fun H6 e6 => q p H6 hp (f1.trans e6) (e6 _ _ f2)
/-- return f(x, y), both new lists -/
theorem s_ret2L {σ : L2.St} {H : Hp} {ta tb : TE} {z : V} {D : Ends} {sp : Sp} {E : XK} {xs ys : List V} (ha : EvL ta σ H xs) (hb : EvL tb σ H ys) (hs : ∀ p r H1, Ex H H1 → H1 p = some (.lst xs) → H1 r = some (.lst ys) → SpV sp [.ref p, .ref r] H1 z) (k : ∀ H1, Ex H H1 → D.rt z H1) :
    tRet (tCall sp [] E (tCons ta (tCons tb tNil))) D σ H :=
  ha H (Ex.refl H) _ fun p H1 _ e1 h1 => hb H1 e1 _ fun r H2 _ e2 h2 => hs p r H2 (e1.trans e2) (e2 _ _ h1) h2 H2 (Ex.refl H2) _ (fun H3 e3 => k H3 ((e1.trans e2).trans e3)) E
def blockSign (ns : List Int) (ss : List Nat) (m : Nat) (k : Nat) : Nat :=
  let c := cel ns (3 + k) + (k : Int) / 7
  if c % 6 = 5 then (signsOf (c / 6) 1).getD 0 0 else ss.getD (c / 6 % (m : Int)).toNat 0
def blockOf (ns : List Int) (ss : List Nat) (m n : Nat) : List Nat := (List.range n).map (blockSign ns ss m)
theorem block_succ (ns : List Int) (ss : List Nat) (m n : Nat) : blockOf ns ss m (n + 1) = blockOf ns ss m n ++ [blockSign ns ss m n] := by
  unfold blockOf
  rw [List.range_succ, List.map_append]
  rfl
theorem block_len (ns : List Int) (ss : List Nat) (m n : Nat) : (blockOf ns ss m n).length = n := by simp [blockOf]
theorem sign_at {ss : List Nat} {i : Int} (h1 : 0 ≤ i) (h2 : i < ss.length) : atI (tx ss).cps.toList i = some (ss.getD i.toNat 0) := by
  rw [tx_cps]
  have e : i = ((i.toNat : Nat) : Int) := by omega
  rw [e]
  unfold atI ixN
  have hlt : i.toNat < ss.length := by omega
  rw [if_pos (by omega), if_pos (by omega)]
  show ss[((i.toNat : Nat) : Int).toNat]? = _
  rw [show ((i.toNat : Nat) : Int).toNat = i.toNat by omega, List.getElem?_eq_getElem hlt, List.getD_eq_getElem?_getD, List.getElem?_eq_getElem hlt]
  rfl
theorem one_sign (c : Int) : tx (signsOf c 1) = tx [(signsOf c 1).getD 0 0] := by simp [signsOf, List.range_succ]
theorem ok_law {f : Addr} {fd : FuncData} (T : Txt K mg) (F : Fun K "law" "law" s_law f fd) (C__law_many_by : Cal P w K mg base "_law_many_by" ["_law_cell"] 1 sp_many) (C__law_signs_by : Cal P w K mg base "_law_signs_by" ["_law_cell", "_law_many"] 1 sp_signs) (C__law_numbers_alike : Cal P w K mg base "_law_numbers_alike" ["_law_found", "_law_due"] 2 (sp_alike K)) (C__law_cell_at : Cal P w K mg base "_law_cell_at" ["_law_script", "_law_k"] 1 (sp_cell K)) (C_counted : Cal P w K mg base "counted" ["signs", "block"] 1 sp_counted) (C__law_counts_by : Cal P w K mg base "_law_counts_by" ["_law_signs", "_law_block"] 1 sp_countsB) : FnOk P w K mg base CX0 3 f fd ["_law_script"] (sp_law K) := by
  refine F.ok sc_law (fun vs H Q E h => by obtain ⟨a, ns, rfl, _⟩ := h; rfl) (fun cdv A outer s H vs Q E hr h => ?_)
  obtain ⟨a, ns, rfl, hs, hlen, q⟩ := h
  refine ⟨_, (pss_cons (ps_set (i := 1) sc_law.nd rfl (Or.inl rfl) (pe_cal C__law_many_by hr (by decide) (by rfl) (pa_cons (pe_cal C__law_cell_at hr (by decide) (by rfl) (pa_cons (pv 0) (pa_cons pe_int pa_nil))) pa_nil)))
      (pss_cons (ps_set (i := 2) sc_law.nd rfl (Or.inl rfl) (pe_cal C__law_signs_by hr (by decide) (by rfl) (pa_cons (pe_cal C__law_cell_at hr (by decide) (by rfl) (pa_cons (pv 0) (pa_cons pe_int pa_nil))) (pa_cons (pv 1) pa_nil))))
      (pss_cons (ps_set (i := 3) sc_law.nd rfl (Or.inl rfl) pe_str)
      (pss_cons (ps_for PassesOwn.never rfl (pi_range1 (by rfl) T.b_range (pa_cons (pe_op op_mod (pe_cal C__law_cell_at hr (by decide) (by rfl) (pa_cons (pv 0) (pa_cons pe_int pa_nil))) pe_int) pa_nil)) (pg_name (i := 4) sc_law.nd rfl (Or.inl rfl)) (pss_cons (ps_set (i := 5) sc_law.nd rfl (Or.inl rfl) (pe_op op_add (pe_cal C__law_cell_at hr (by decide) (by rfl) (pa_cons (pv 0) (pa_cons (pe_op op_add pe_int (pv 4)) pa_nil))) (pe_op op_fdiv (pv 4) pe_int)))
      (pss_one (ps_if (pt_cmpR op_eq (pe_op op_mod (pv 5) pe_int) pe_int (nomark _)) (pss_one (ps_set (i := 3) sc_law.nd rfl (Or.inl rfl) (pe_op op_add_str (pv 3) (pe_cal C__law_signs_by hr (by decide) (by rfl) (pa_cons (pe_op op_fdiv (pv 5) pe_int) (pa_cons pe_int pa_nil)))))) (pss_one (ps_set (i := 3) sc_law.nd rfl (Or.inl rfl) (pe_op op_add_str (pv 3) (pe_ix ix_str (pv 2) (pe_op op_mod (pe_op op_fdiv (pv 5) pe_int) (pv 1)) (fun _ _ => rfl)))))))))
      (pss_one (ps_ret (pe_cal C__law_numbers_alike hr (by decide) (by rfl) (pa_cons (pe_cal C_counted hr (by decide) (by rfl) (pa_cons (pv 2) (pa_cons (pv 3) pa_nil))) (pa_cons (pe_cal C__law_counts_by hr (by decide) (by rfl) (pa_cons (pv 2) (pa_cons (pv 3) pa_nil))) pa_nil))))))))), ?_⟩
  refine q_asg (ev_cal (ea_cons (ev_cal (ea_cons (ev_var rfl) (ea_cons ev_c ea_nil)) (spv_cell (j := 0) hs rfl)) ea_nil) (spv fun _ _ Q E q => ⟨_, rfl, q⟩)) fun H1 e1 => ?_
  have hn1 := manyOf_pos (cel ns 0)
  obtain ⟨n, hn⟩ : ∃ n : Nat, manyOf (cel ns 0) = (n : Int) := ⟨(manyOf (cel ns 0)).toNat, by omega⟩
  rw [hn] at hn1 ⊢
  obtain ⟨hn1, hn2⟩ := hn1
  refine q_asg (ev_cal (ea_cons (ev_cal (ea_cons (ev_var rfl) (ea_cons ev_c ea_nil)) (spv_cell (j := 1) (ex_l e1 hs) rfl)) (ea_cons (ev_var rfl) ea_nil)) (spv fun _ _ Q E q => ⟨_, n, rfl, by omega, q⟩)) fun H2 e2 => ?_
  generalize hss : signsOf (cel ns 1) n = ss
  have hsl : ss.length = n := by rw [← hss, signsOf_len]
  refine q_asg ev_c fun H3 e3 => ?_
  have e13 := (e1.trans e2).trans e3
  refine q_forR1 (ea_cons (ev_op (ev_cal (ea_cons (ev_var rfl) (ea_cons ev_c ea_nil)) (spv_cell (j := 2) (ex_l e13 hs) rfl)) ev_c (rv_mod (by decide))) ea_nil) ⟨by omega, by omega⟩
    (fun k σ' H' => k ≤ 41 ∧ Ex H H' ∧ ∃ y1 y2, σ' = [some (.ref a), some (.int (n : Int)), some (.str (tx ss)), some (.str (tx (blockOf ns ss n k))), y1, y2]) (fun H4 e4 => ⟨by omega, e13.trans e4, _, _, rfl⟩) (fun k σ' H' hk w => ?_) (fun σ' H' w => ?_)
  · obtain ⟨w0, w1, y1, y2, rfl⟩ := w
    refine q_asg (ev_op (ev_cal (ea_cons (ev_var rfl) (ea_cons (ev_op ev_c (ev_var rfl) rv_I0) ea_nil)) (spv_cell (j := 3 + k) (ex_l w1 hs) (by omega))) (ev_op (ev_var rfl) ev_c (rv_fdiv (by decide))) rv_I0) fun H4 e4 => ?_
    have bs := block_succ ns ss n k
    unfold blockSign at bs
    dsimp only at bs
    generalize hc : cel ns (3 + k) + (k : Int) / 7 = c at bs
    refine s_if (et_test (ev_op (ev_op (ev_var rfl) ev_c (rv_mod (by decide))) ev_c (rv_eq rfl))) (fun hb H5 e5 => ?_) (fun hb H5 e5 => ?_)
    · have h5 : c % 6 = 5 := V.int.inj (of_decide_eq_true hb)
      rw [if_pos h5] at bs
      refine s_asg (ev_is (ev_op (ev_var rfl) (ev_cal (ea_cons (ev_op (ev_var rfl) ev_c (rv_fdiv (by decide))) (ea_cons ev_c ea_nil)) (spv fun _ _ Q E q => ⟨c / 6, 1, rfl, by omega, q⟩)) (rv_addS ?_)) (w := .str (tx (blockOf ns ss n (k + 1)))) ?_) fun H6 e6 => ⟨by omega, ((w1.trans e4).trans e5).trans e6, _, _, rfl⟩
      · rw [tx_len, tx_len, block_len, signsOf_len]
        exact sz_of (by omega)
      · rw [bs, ← tx_app, one_sign]
    · have h5 : ¬ c % 6 = 5 := fun z => of_decide_eq_false hb (by rw [z])
      rw [if_neg h5] at bs
      have g1 := Int.emod_nonneg (c / 6) (show (n : Int) ≠ 0 by omega)
      have g2 := Int.emod_lt_of_pos (c / 6) (show 0 < (n : Int) by omega)
      refine s_asg (ev_is (ev_op (ev_var rfl) (ev_op (ev_var rfl) (ev_op (ev_op (ev_var rfl) ev_c (rv_fdiv (by decide))) (ev_var rfl) (rv_mod (by omega))) (rv_ixS (by rw [tx_len]; omega) (sign_at g1 (by omega)))) (rv_addS ?_)) (w := .str (tx (blockOf ns ss n (k + 1)))) ?_) fun H6 e6 => ⟨by omega, ((w1.trans e4).trans e5).trans e6, _, _, rfl⟩
      · rw [tx_len, block_len]
        exact sz_of (by show k + 1 ≤ 100000; omega)
      · rw [bs, ← tx_app]
        rfl
  · obtain ⟨w0, w1, y1, y2, rfl⟩ := w
    refine s_ret2L (el_cal (ea_cons (ev_var rfl) (ea_cons (ev_var rfl) ea_nil)) (spl fun H5 e5 Q E q => ⟨_, _, rfl, by omega, q⟩)) (el_cal (ea_cons (ev_var rfl) (ea_cons (ev_var rfl) ea_nil)) (spl fun H5 e5 Q E q => ⟨_, _, rfl, by omega, q⟩)) (fun p r H5 e5 h1 h2 => spv_alike h1 h2) fun H6 e6 => q H6 (w1.trans e6)
end
theorem all_mk {l : PySem.W.OpenLaw} {w : World} {K : PySem.W.Frag} {h : Heap} {mg : Str → Option Value} {fa f0 f1 f2 f3 f4 f5 f6 f7 : Addr} (X : K.In h) (G : h.Ns mainGlobals mg) (hfa : mg "law" = some (.ref fa))
    {od0 an0 od1 an1 od2 an2 od3 an3 od4 an4 od5 an5 od6 an6 od7 an7 : Option Addr} {sl0 sl1 sl2 sl3 sl4 sl5 sl6 sl7 : Array (Option Value)} {oc0 kV0 dc0 pm0 cd0 ct0 oc1 kV1 dc1 pm1 cd1 ct1 oc2 kV2 dc2 pm2 cd2 ct2 oc3 kV3 dc3 pm3 cd3 ct3 oc4 kV4 dc4 pm4 cd4 ct4 oc5 kV5 dc5 pm5 cd5 ct5 oc6 kV6 dc6 pm6 cd6 ct6 oc7 kV7 dc7 pm7 cd7 ct7 : Value}
    (a0 : PySem.W.nsIn K mainGlobals "_law_whole" = some (some (.ref f0))) (l0 : K.lookup f0 = some ⟨oc0, od0, .func (PySem.W.fnOf "_law_whole" "_law_whole" (defArgs s_whole) (defBody s_whole) (defScope s_whole) .none kV0 dc0 pm0 an0 cd0 ct0), sl0⟩) (c0 : PySem.W.codeIn K cd0 "_law_whole" = true) (k0 : PySem.W.keepIn K (.ref f0) = true)
    (a1 : PySem.W.nsIn K mainGlobals "_law_cell_at" = some (some (.ref f1))) (l1 : K.lookup f1 = some ⟨oc1, od1, .func (PySem.W.fnOf "_law_cell_at" "_law_cell_at" (defArgs s_cell_at) (defBody s_cell_at) (defScope s_cell_at) .none kV1 dc1 pm1 an1 cd1 ct1), sl1⟩) (c1 : PySem.W.codeIn K cd1 "_law_cell_at" = true) (k1 : PySem.W.keepIn K (.ref f1) = true)
    (a2 : PySem.W.nsIn K mainGlobals "_law_many_by" = some (some (.ref f2))) (l2 : K.lookup f2 = some ⟨oc2, od2, .func (PySem.W.fnOf "_law_many_by" "_law_many_by" (defArgs s_many_by) (defBody s_many_by) (defScope s_many_by) .none kV2 dc2 pm2 an2 cd2 ct2), sl2⟩) (c2 : PySem.W.codeIn K cd2 "_law_many_by" = true) (k2 : PySem.W.keepIn K (.ref f2) = true)
    (a3 : PySem.W.nsIn K mainGlobals "_law_numbers_alike" = some (some (.ref f3))) (l3 : K.lookup f3 = some ⟨oc3, od3, .func (PySem.W.fnOf "_law_numbers_alike" "_law_numbers_alike" (defArgs s_numbers_alike) (defBody s_numbers_alike) (defScope s_numbers_alike) .none kV3 dc3 pm3 an3 cd3 ct3), sl3⟩) (c3 : PySem.W.codeIn K cd3 "_law_numbers_alike" = true) (k3 : PySem.W.keepIn K (.ref f3) = true)
    (a4 : PySem.W.nsIn K mainGlobals "counted" = some (some (.ref f4))) (l4 : K.lookup f4 = some ⟨oc4, od4, .func (PySem.W.fnOf "counted" "counted" (defArgs s_counted) (defBody s_counted) (defScope s_counted) .none kV4 dc4 pm4 an4 cd4 ct4), sl4⟩) (c4 : PySem.W.codeIn K cd4 "counted" = true) (k4 : PySem.W.keepIn K (.ref f4) = true)
    (a5 : PySem.W.nsIn K mainGlobals "_law_signs_by" = some (some (.ref f5))) (l5 : K.lookup f5 = some ⟨oc5, od5, .func (PySem.W.fnOf "_law_signs_by" "_law_signs_by" (defArgs s_signs_by) (defBody s_signs_by) (defScope s_signs_by) .none kV5 dc5 pm5 an5 cd5 ct5), sl5⟩) (c5 : PySem.W.codeIn K cd5 "_law_signs_by" = true) (k5 : PySem.W.keepIn K (.ref f5) = true)
    (a6 : PySem.W.nsIn K mainGlobals "_law_counts_by" = some (some (.ref f6))) (l6 : K.lookup f6 = some ⟨oc6, od6, .func (PySem.W.fnOf "_law_counts_by" "_law_counts_by" (defArgs s_counts_by) (defBody s_counts_by) (defScope s_counts_by) .none kV6 dc6 pm6 an6 cd6 ct6), sl6⟩) (c6 : PySem.W.codeIn K cd6 "_law_counts_by" = true) (k6 : PySem.W.keepIn K (.ref f6) = true)
    (a7 : PySem.W.nsIn K mainGlobals "law" = some (some (.ref f7))) (l7 : K.lookup f7 = some ⟨oc7, od7, .func (PySem.W.fnOf "law" "law" (defArgs s_law) (defBody s_law) (defScope s_law) .none kV7 dc7 pm7 an7 cd7 ct7), sl7⟩) (c7 : PySem.W.codeIn K cd7 "law" = true) (k7 : PySem.W.keepIn K (.ref f7) = true)
    (zb_bool : PySem.W.nsIn K mainGlobals "bool" = some none)
    (zb_int : PySem.W.nsIn K mainGlobals "int" = some none)
    (zb_isinstance : PySem.W.nsIn K mainGlobals "isinstance" = some none)
    (zb_len : PySem.W.nsIn K mainGlobals "len" = some none)
    (zb_list : PySem.W.nsIn K mainGlobals "list" = some none)
    (zb_range : PySem.W.nsIn K mainGlobals "range" = some none)
    (zb_zip : PySem.W.nsIn K mainGlobals "zip" = some none) :
    ∃ fd : FuncData, (∀ (s : Shared) (v : Value), BindsTo s fd ⟨[v], []⟩ [("_law_script", v)]) ∧ ∀ base : Heap, K.In base → base.Ns mainGlobals mg → FnOk l.prog w K mg base CX0 3 fa fd ["_law_script"] (sp_law K) := by
  have e := hfa.symm.trans (PySem.W.mg_of X G a7)
  cases e
  have T : Txt K mg := ⟨PySem.W.mg_none_of X G zb_bool, PySem.W.mg_none_of X G zb_int, PySem.W.mg_none_of X G zb_isinstance, PySem.W.mg_none_of X G zb_len, PySem.W.mg_none_of X G zb_list, PySem.W.mg_none_of X G zb_range, PySem.W.mg_none_of X G zb_zip⟩
  have F0 := fun_mk (st := s_whole) l0 c0 k0
  have b0 := F0.binds (ps := ["_law_found"]) fun _ _ _ _ _ _ us hl => match us, hl with | [_], _ => rfl
  have F1 := fun_mk (st := s_cell_at) l1 c1 k1
  have b1 := F1.binds (ps := ["_law_script", "_law_k"]) fun _ _ _ _ _ _ us hl => match us, hl with | [_, _], _ => rfl
  have F2 := fun_mk (st := s_many_by) l2 c2 k2
  have b2 := F2.binds (ps := ["_law_cell"]) fun _ _ _ _ _ _ us hl => match us, hl with | [_], _ => rfl
  have F3 := fun_mk (st := s_numbers_alike) l3 c3 k3
  have b3 := F3.binds (ps := ["_law_found", "_law_due"]) fun _ _ _ _ _ _ us hl => match us, hl with | [_, _], _ => rfl
  have F4 := fun_mk (st := s_counted) l4 c4 k4
  have b4 := F4.binds (ps := ["signs", "block"]) fun _ _ _ _ _ _ us hl => match us, hl with | [_, _], _ => rfl
  have F5 := fun_mk (st := s_signs_by) l5 c5 k5
  have b5 := F5.binds (ps := ["_law_cell", "_law_many"]) fun _ _ _ _ _ _ us hl => match us, hl with | [_, _], _ => rfl
  have F6 := fun_mk (st := s_counts_by) l6 c6 k6
  have b6 := F6.binds (ps := ["_law_signs", "_law_block"]) fun _ _ _ _ _ _ us hl => match us, hl with | [_, _], _ => rfl
  have F7 := fun_mk (st := s_law) l7 c7 k7
  refine ⟨PySem.W.fnOf "law" "law" (defArgs s_law) (defBody s_law) (defScope s_law) .none kV7 dc7 pm7 an7 cd7 ct7, fun s v => .of_eq rfl, fun base _ _ => ?_⟩
  have C0 : Cal l.prog w K mg base "_law_whole" ["_law_found"] 1 sp_whole := ⟨_, _, ok_whole T F0, PySem.W.mg_of X G a0, F0.kp, b0⟩
  have C1 : Cal l.prog w K mg base "_law_cell_at" ["_law_script", "_law_k"] 1 (sp_cell K) := ⟨_, _, ok_cell_at T F1, PySem.W.mg_of X G a1, F1.kp, b1⟩
  have C2 : Cal l.prog w K mg base "_law_many_by" ["_law_cell"] 1 sp_many := ⟨_, _, ok_many_by T F2, PySem.W.mg_of X G a2, F2.kp, b2⟩
  have C3 : Cal l.prog w K mg base "_law_numbers_alike" ["_law_found", "_law_due"] 2 (sp_alike K) := ⟨_, _, ok_numbers_alike T F3 C0, PySem.W.mg_of X G a3, F3.kp, b3⟩
  have C4 : Cal l.prog w K mg base "counted" ["signs", "block"] 1 sp_counted := ⟨_, _, ok_counted T F4, PySem.W.mg_of X G a4, F4.kp, b4⟩
  have C5 : Cal l.prog w K mg base "_law_signs_by" ["_law_cell", "_law_many"] 1 sp_signs := ⟨_, _, ok_signs_by T F5, PySem.W.mg_of X G a5, F5.kp, b5⟩
  have C6 : Cal l.prog w K mg base "_law_counts_by" ["_law_signs", "_law_block"] 1 sp_countsB := ⟨_, _, ok_counts_by T F6, PySem.W.mg_of X G a6, F6.kp, b6⟩
  exact ok_law T F7 C2 C5 C3 C1 C4 C6
end SP
open PySem PySem.W PyProof.Rows
set_option maxRecDepth 100000 in
set_option maxHeartbeats 0 in
theorem PySem.Challenge.cw_sharepack_k02_signs_counted_holds : PySem.Challenge.rw_sharepack_k02_signs_counted.Holds := by
  w_on; o_law; k_head; (case hw => w_witness2)
  k_fill
  refine L2.walk_ofK (l := PySem.Challenge.rw_sharepack_k02_signs_counted) (n := 63) (k := 3) (x := "_law_script") (CX := L2.CX0) (sp := fun K => SP.sp_law K) rfl (by decide) rfl ⟨rfl, by decide, by decide⟩ (fun w h Y => PySem.W.kIn_of Y) ?F (fun K H a ns hl hO hS => SP.law_start hl hS) (fun _ _ _ _ h => h)
  case F =>
    intro w mg fa h KX G hmg
    refine' SP.all_mk KX G hmg ?a0 ?l0 ?c0 ?k0 ?a1 ?l1 ?c1 ?k1 ?a2 ?l2 ?c2 ?k2 ?a3 ?l3 ?c3 ?k3 ?a4 ?l4 ?c4 ?k4 ?a5 ?l5 ?c5 ?k5 ?a6 ?l6 ?c6 ?k6 ?a7 ?l7 ?c7 ?k7 ?zb_bool ?zb_int ?zb_isinstance ?zb_len ?zb_list ?zb_range ?zb_zip
    (case a0 => k_is)
    (case l0 => k_is)
    (case c0 => k_is)
    (case k0 => k_is)
    (case a1 => k_is)
    (case l1 => k_is)
    (case c1 => k_is)
    (case k1 => k_is)
    (case a2 => k_is)
    (case l2 => k_is)
    (case c2 => k_is)
    (case k2 => k_is)
    (case a3 => k_is)
    (case l3 => k_is)
    (case c3 => k_is)
    (case k3 => k_is)
    (case a4 => k_is)
    (case l4 => k_is)
    (case c4 => k_is)
    (case k4 => k_is)
    (case a5 => k_is)
    (case l5 => k_is)
    (case c5 => k_is)
    (case k5 => k_is)
    (case a6 => k_is)
    (case l6 => k_is)
    (case c6 => k_is)
    (case k6 => k_is)
    (case a7 => k_is)
    (case l7 => k_is)
    (case c7 => k_is)
    (case k7 => k_is)
    (case zb_bool => k_is)
    (case zb_int => k_is)
    (case zb_isinstance => k_is)
    (case zb_len => k_is)
    (case zb_list => k_is)
    (case zb_range => k_is)
    (case zb_zip => k_is)
