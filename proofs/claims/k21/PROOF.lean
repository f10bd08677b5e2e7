import PyProof.Rows.All
import Wide.All
import OpenK.AllK
import Wide.FinOn
import HandS.ForMost
import HandS.Evl
import HandS.Walk
import HandS.IsInst
import HandS.Exc
import HandS.TryOnly
import HandS.ExcOwn
import HandS.ExcValue
import HandS.ExcIs
import HandS.WordsExc
import KE.GoesEnum
import KE.GoesMore
import HandS.More
import PyProof.ReprRoads
import HandS.Style
import HandS.Conv
import PySem.Challenge.RW_firstwake_k21_what_units_reach
set_option Elab.async false
set_option linter.all false
set_option maxRecDepth 100000
set_option maxHeartbeats 2000000
namespace FW
open PySem PySem.Spec PyProof.Rows L2
open Evl (pss_cut tCut)
/-! ### defs of the top, how they are called -/
def Df (K : PySem.W.Frag) (mg : Str → Option Value) (x : Str) (st : Stmt) : Prop := ∃ f fd, Fun K x x st f fd ∧ mg x = some (.ref f)
def Ok (P : Program) (w : World) (K : PySem.W.Frag) (mg : Str → Option Value) (base : Heap) (CX : CXT) (k : Nat) (x : Str) (ps : List Str) (sp : Sp) : Prop :=
  ∃ f fd, FnOk P w K mg base CX k f fd ps sp ∧ mg x = some (.ref f) ∧ PySem.W.keepIn K (.ref f) = true ∧ Binds K fd ps [] ∧ ∃ oc od sl, K.lookup f = some ⟨oc, od, .func fd, sl⟩
abbrev BindT (x : Str) (st : Stmt) (ps : List Str) : Prop := ∀ (kV doc pm : Value) (an : Option Addr) (cdv ct : Value) (us : List Value), us.length = ps.length →
  bindArgs (PySem.W.fnOf x x (defArgs st) (defBody st) (defScope st) .none kV doc pm an cdv ct) ⟨us, []⟩ = pure (ps.zip us)
section
variable {P : Program} {w : World} {K : PySem.W.Frag} {mg : Str → Option Value} {base : Heap}
theorem Fun.there {x q : Str} {st : Stmt} {f : Addr} {fd : FuncData} (F : Fun K x q st f fd) : ∃ oc od sl, K.lookup f = some ⟨oc, od, .func fd, sl⟩ := by
  obtain ⟨oc, od, kV, doc, pm, an, cdv, ct, osl, _, lk, _⟩ := F.ex
  exact ⟨oc, od, osl, lk⟩
theorem Df.ok {x : Str} {st : Stmt} {N ps : List Str} {k : Nat} {sp : Sp} (D : Df K mg x st) (S : FnScope N ps (defScope st)) (hb : BindT x st ps) (len : ∀ vs H Q E, sp vs H Q E → vs.length = ps.length)
    (hbody : ∀ (cdv : Value) (A : Around) (outer : List Env) (s : Shared) (H : Hp) (f : Addr) (vs : List V) (Q : VK) (E : XK), Room k (A.deeper (envOfC x (defScope st) s.heap.objs.size f cdv)) → sp vs H Q E →
      ∃ t, PSs (cxOf CX0 P w K mg base N x (defScope st) f cdv A outer s H E).nox (defBody st) t ∧ t { nx := fun _ H' => Q .non H', rt := Q } (start N vs) H) : Ok P w K mg base CX0 (k + 1) x ps sp := by
  obtain ⟨f, fd, F, hm⟩ := D
  exact ⟨f, fd, F.ok S len (fun cdv A outer s H vs Q E => hbody cdv A outer s H f vs Q E), hm, F.kp, F.binds hb, Fun.there F⟩
theorem Df.okX {x : Str} {st : Stmt} {N ps : List Str} {k : Nat} {sp : Sp} (D : Df K mg x st) (S : FnScope N ps (defScope st)) (hb : BindT x st ps) (len : ∀ vs H Q E, sp vs H Q E → vs.length = ps.length)
    (hbody : ∀ (cdv : Value) (A : Around) (outer : List Env) (s : Shared) (H : Hp) (f : Addr) (vs : List V) (Q : VK) (E : XK), Room k (A.deeper (envOfC x (defScope st) s.heap.objs.size f cdv)) → sp vs H Q E →
      ∃ t, PSs (cxOf (L2.CX P w) P w K mg base N x (defScope st) f cdv A outer s H E) (defBody st) t ∧ t { nx := fun _ H' => Q .non H', rt := Q } (start N vs) H) : Ok P w K mg base (L2.CX P w) (k + 1) x ps sp := by
  obtain ⟨f, fd, F, hm⟩ := D
  exact ⟨f, fd, F.okX S len (fun cdv A outer s H vs Q E => hbody cdv A outer s H f vs Q E), hm, F.kp, F.binds hb, Fun.there F⟩
theorem Ok.imp {CX : CXT} {k : Nat} {x : Str} {ps : List Str} {sp sp' : Sp} (o : Ok P w K mg base CX k x ps sp) (h : ∀ vs H Q E, sp' vs H Q E → sp vs H Q E) : Ok P w K mg base CX k x ps sp' := by
  obtain ⟨f, fd, F, hm, hk, hb, ht⟩ := o
  exact ⟨f, fd, F.imp h, hm, hk, hb, ht⟩
theorem Ok.mono {CX : CXT} {j k : Nat} {x : Str} {ps : List Str} {sp : Sp} (o : Ok P w K mg base CX j x ps sp) (h : j ≤ k) : Ok P w K mg base CX k x ps sp := by
  obtain ⟨f, fd, F, hm, hk, hb, ht⟩ := o
  exact ⟨f, fd, F.mono h, hm, hk, hb, ht⟩
end
section
variable {X : Cx} {x : Str} {k : Nat} {ps : List Str} {sp : Sp} {e : Expr} {es : List Expr} {t : TA} {p pos : Pos}
theorem pe_callO (o : Ok X.prog X.w X.K X.mg X.base CX0 k x ps sp) (hr : Room k X.A) (ha : PA X (e :: es) t) (hg : Gl X x := by rfl)
    (hdb : (x == ("__debug__" : Str)) = false := by decide) (he : starEach (e :: es) X.env = (false, eval e X.env) :: starEach es X.env := by rfl) (hpl : (backTo pos (starEach es X.env)).any (·.1) = false := by rfl) :
    PE X (.Call (.Name x p) (e :: es) [] pos) (tCall sp [] E0 t) := by
  obtain ⟨f, fd, F, hm, hk, hb, ht⟩ := o
  exact pe_call F hr hg hm hk hb .nil pass0 ha hdb he hpl
theorem pe_callOX {W : WX} (o : Ok X.prog X.w X.K X.mg X.base (L2.CX X.prog X.w) k x ps sp) (hr : Room k X.A) (tk : Takes X W) (ha : PA X (e :: es) t) (hg : Gl X x := by rfl)
    (hdb : (x == ("__debug__" : Str)) = false := by decide) (he : starEach (e :: es) X.env = (false, eval e X.env) :: starEach es X.env := by rfl) (hpl : (backTo pos (starEach es X.env)).any (·.1) = false := by rfl) :
    PE X (.Call (.Name x p) (e :: es) [] pos) (tCallS sp (WE W) t) := by
  obtain ⟨f, fd, F, hm, hk, hb, ht⟩ := o
  exact pe_callS F hr hg hm hk hb (fun σ => passAt tk σ) ha hdb he hpl
/-- a module's constant that is an int -/
theorem pe_const {i : Int} (h : ∃ t, X.mg x = some (.int i t)) (hg : Gl X x := by rfl) (hd : (x == ("__debug__" : Str)) = false := by decide) : PE X (.Name x pos) (tC (.int i)) := by
  obtain ⟨t, h⟩ := h
  exact pe_glob hg h ⟨t, rfl⟩ hd
end
section
variable {X : Cx} {x : Str} {pos : Pos}
/-- a module's name that holds an object -/
theorem pe_refg {a : Addr} (h : X.mg x = some (.ref a)) (hg : Gl X x := by rfl) (hd : (x == ("__debug__" : Str)) = false := by decide) : PE X (.Name x pos) (tC (.ref a)) := pe_glob hg h rfl hd
end
/-! ### rules with the written part named (within a comprehension) -/
section
variable {X : Cx} {K : PySem.W.Frag}
theorem ix_tupK (h : X.K = K) : IxR X (rIxT K) := by
  subst h
  exact ix_tup
theorem ix_listK (h : X.K = K) : IxR X (rIxL K) := by
  subst h
  exact ix_list
theorem call_lenK (h : X.K = K) : CallR X (.builtin "len") (fun xs H Q => ∃ p ys, xs = [.ref p] ∧ (SqL K H p ys ∨ SqT K H p ys) ∧ Q (.int ys.length) H) := by
  subst h
  exact call_len_seq
theorem isiK (h : X.K = K) : CallR X (.builtin "isinstance") (rIsi K) := by
  subst h
  exact call_isi
end
/-! ### heaps -/
theorem same_new {H : Hp} {p : Addr} {o : HO} (h : H p = none) : Same H (upd H p o) := fun b x e => by
  rw [upd_ne (ne_of_none e h)]
  exact e
theorem Same.new {H H1 : Hp} {p : Addr} {o : HO} (s : Same H H1) (h : H1 p = none) : Same H (upd H1 p o) := s.trans (same_new h)
/-- what is not at p -/
def off (H : Hp) (p : Addr) : Hp := fun b => if b = p then none else H b
theorem off_ne {H : Hp} {p b : Addr} (h : b ≠ p) : off H p b = H b := by
  unfold off
  rw [if_neg h]
theorem off_same {H : Hp} {p : Addr} : off H p p = none := by
  unfold off
  rw [if_pos rfl]
theorem off_sub {H : Hp} {p : Addr} : Same (off H p) H := fun b o e => by
  by_cases h : b = p
  · subst h
    rw [off_same] at e
    cases e
  · rw [off_ne h] at e
    exact e
theorem off_of {H : Hp} {p b : Addr} {o : HO} (e : H b = some o) (h : b ≠ p) : off H p b = some o := by
  rw [off_ne h]
  exact e
theorem off_mono {H H' : Hp} {p : Addr} (s : Same H H') : Same (off H p) (off H' p) := fun b o e => by
  by_cases h : b = p
  · subst h
    rw [off_same] at e
    cases e
  · rw [off_ne h] at e
    rw [off_ne h]
    exact s b o e
theorem off_upd {H H' : Hp} {p : Addr} {o : HO} (s : Same (off H p) (off H' p)) : Same (off H p) (off (upd H' p o) p) := fun b u e => by
  have q := s b u e
  by_cases h : b = p
  · subst h
    rw [off_same] at e
    cases e
  · rw [off_ne h] at q
    rw [off_ne h, upd_ne h]
    exact q
/-- the pen at p: its cells (a list of ints), how many were read, what is left of the last -/
def Pen (H : Hp) (p : Addr) (B : Nat) : Prop := ∃ (c : Addr) (cs : List Int) (at' r : Int), H p = some (.lst [.ref c, .int at', .int r]) ∧ H c = some (.lst (cs.map V.int)) ∧ cs.length ≤ 12 ∧ 0 ≤ at' ∧ at' ≤ (B : Int)
theorem Pen.mono {H : Hp} {p : Addr} {B B' : Nat} (h : Pen H p B) (le : B ≤ B') : Pen H p B' := by
  obtain ⟨c, cs, at', r, h1, h2, h3, h4, h5⟩ := h
  exact ⟨c, cs, at', r, h1, h2, h3, h4, by omega⟩
theorem Pen.ext {H H' : Hp} {p : Addr} {B : Nat} (h : Pen H p B) (s : Same H H') : Pen H' p B := by
  obtain ⟨c, cs, at', r, h1, h2, h3, h4, h5⟩ := h
  exact ⟨c, cs, at', r, s _ _ h1, s _ _ h2, h3, h4, h5⟩
theorem pen_ne {H : Hp} {p c : Addr} {cs : List Int} {at' r : Int} (h1 : H p = some (.lst [.ref c, .int at', .int r])) (h2 : H c = some (.lst (cs.map V.int))) : c ≠ p := fun e => by
  subst e
  rw [h1] at h2
  have q := HO.lst.inj (Option.some.inj h2)
  cases cs with
  | nil => cases q
  | cons x l =>
    rw [List.map_cons] at q
    have := (List.cons.inj q).1
    cases this
/-! ### lists of ints -/
theorem cut_to {ns : List Int} (k : Nat) : cutV (ns.map V.int) none (some (k : Int)) = (ns.take k).map V.int := by
  unfold cutV
  rw [HT.sIx_none, HT.sIx_nat, List.drop_zero, List.length_map, Nat.sub_zero, ← List.map_take]
  congr 1
  rcases Nat.le_total k ns.length with h | h
  · rw [Nat.min_eq_left h]
  · rw [Nat.min_eq_right h, List.take_of_length_le (Nat.le_refl _), List.take_of_length_le h]
theorem cut_len {ns : List Int} (lo hi : Option Int) : ∃ ms : List Int, cutV (ns.map V.int) lo hi = ms.map V.int := by
  unfold cutV
  rw [← List.map_drop, ← List.map_take]
  exact ⟨_, rfl⟩
theorem cut_past {ns : List Int} {k h : Nat} (hn : ns.length ≤ k) : cutV (ns.map V.int) (some (k : Int)) (some (h : Int)) = [] := by
  unfold cutV
  rw [show HT.sIx (ns.map V.int).length 0 (some (k : Int)) = min k (ns.map V.int).length from HT.sIx_nat _ _ _, List.length_map, Nat.min_eq_right hn, List.drop_of_length_le (by rw [List.length_map]; exact Nat.le_refl _), List.take_nil]
theorem ints_get {ns : List Int} {j : Nat} (h : j < ns.length) : ∃ z, (ns.map V.int)[j]? = some (.int z) := ⟨ns[j], by rw [List.getElem?_map, List.getElem?_eq_getElem h]; rfl⟩
theorem ints_at {ns : List Int} {i : Int} (h0 : 0 ≤ i) (h : i < (ns.length : Int)) : ∃ z, z ∈ ns ∧ atI (ns.map V.int) i = some (.int z) := by
  obtain ⟨j, rfl⟩ := Int.eq_ofNat_of_zero_le h0
  have hj : j < ns.length := by omega
  exact ⟨ns[j], List.getElem_mem hj, atI_nat (by rw [List.getElem?_map, List.getElem?_eq_getElem hj]; rfl)⟩
theorem ixN_in {n : Nat} {i : Int} (h0 : 0 ≤ i) (h : i < (n : Int)) : ixN n i = some i.toNat := by
  unfold ixN
  rw [if_pos h0, if_pos h]
theorem ints_set {ns : List Int} {j : Nat} {z : Int} : (ns.map V.int).set j (.int z) = (ns.set j z).map V.int := by
  rw [List.map_set]
theorem sz_of {n : Nat} (h : n ≤ 100000) : n ≤ sizeLine := Nat.le_trans h (by decide)
theorem sz_lt {n : Nat} (h : n < 100000) : n < sizeLine := Nat.lt_of_lt_of_le h (by decide)
/-! ### the end -/
/-- what the written part says of a def -/
def DfAt (K : PySem.W.Frag) (x : Str) (st : Stmt) : Prop := ∃ (f : Addr) (oc : Value) (od : Option Addr) (kV doc pm : Value) (an : Option Addr) (cdv ct : Value) (sl : Array (Option Value)),
  PySem.W.nsIn K mainGlobals x = some (some (.ref f)) ∧ K.lookup f = some ⟨oc, od, .func (PySem.W.fnOf x x (defArgs st) (defBody st) (defScope st) .none kV doc pm an cdv ct), sl⟩ ∧ PySem.W.codeIn K cdv x = true ∧ PySem.W.keepIn K (.ref f) = true
theorem DfAt.mk {K : PySem.W.Frag} {x : Str} {st : Stmt} {f : Addr} {oc : Value} {od : Option Addr} {kV doc pm : Value} {an : Option Addr} {cdv ct : Value} {sl : Array (Option Value)} (a : PySem.W.nsIn K mainGlobals x = some (some (.ref f)))
    (l : K.lookup f = some ⟨oc, od, .func (PySem.W.fnOf x x (defArgs st) (defBody st) (defScope st) .none kV doc pm an cdv ct), sl⟩) (c : PySem.W.codeIn K cdv x = true) (k : PySem.W.keepIn K (.ref f) = true) : DfAt K x st :=
  ⟨f, oc, od, kV, doc, pm, an, cdv, ct, sl, a, l, c, k⟩
theorem DfAt.df {K : PySem.W.Frag} {mg : Str → Option Value} {h : Heap} {x : Str} {st : Stmt} (D : DfAt K x st) (X : K.In h) (G : h.Ns mainGlobals mg) : Df K mg x st := by
  obtain ⟨f, oc, od, kV, doc, pm, an, cdv, ct, sl, a, l, c, k⟩ := D
  exact ⟨f, _, fun_mk l c k, PySem.W.mg_of X G a⟩
theorem end_law {P : Program} {w : World} {K : PySem.W.Frag} {mg : Str → Option Value} {fa : Addr} {st : Stmt} {k : Nat} {sp : Sp} (D : Df K mg "law" st) (hb : BindT "law" st ["script"]) (hfa : mg "law" = some (.ref fa))
    (ok : ∀ base : Heap, K.In base → base.Ns mainGlobals mg → Ok P w K mg base CX0 k "law" ["script"] sp) :
    ∃ fd : FuncData, (∀ (s : Shared) (v : Value), BindsTo s fd ⟨[v], []⟩ [("script", v)]) ∧ ∀ base : Heap, K.In base → base.Ns mainGlobals mg → FnOk P w K mg base CX0 k fa fd ["script"] sp := by
  obtain ⟨f, fd, F, hm⟩ := D
  obtain ⟨oc, od, kV, doc, pm, an, cdv, ct, osl, e, lk, _⟩ := F.ex
  have ef : f = fa := Value.ref.inj (Option.some.inj (hm.symm.trans hfa))
  subst ef
  refine ⟨fd, fun s v => ?_, fun base h1 h2 => ?_⟩
  · subst e
    exact .of_eq (hb kV doc pm an cdv ct [v] rfl)
  · obtain ⟨f', fd', X, hm', _, _, oc', od', sl', lk'⟩ := ok base h1 h2
    have ef : f' = f := Value.ref.inj (Option.some.inj (hm'.symm.trans hm))
    subst ef
    rw [lk] at lk'
    have e2 : fd' = fd := by
      have z := congrArg Obj.data (Option.some.inj lk')
      injection z with z
      exact z.symm
    subst e2
    exact X
/-! ### lists by values -/
open Evl (Ex Ev EvA EvL fresh_back)
/-- te gives a list of xs, new or not -/
def EvLw (te : TE) (σ : L2.St) (H : Hp) (xs : List V) : Prop := ∀ H1, Ex H H1 → ∀ Q : VK, (∀ p H2, Ex H1 H2 → H2 p = some (.lst xs) → Q (.ref p) H2) → te σ H1 Q
section
variable {σ : L2.St} {H : Hp} {ta tb te : TE}
theorem elw_new {xs : List V} (h : EvL te σ H xs) : EvLw te σ H xs := fun H1 e Q q => h H1 e Q fun p H2 _ e2 h2 => q p H2 e2 h2
theorem elw_var {i : Nat} {p : Addr} {xs : List V} (hi : σ[i]? = some (some (.ref p))) (hp : H p = some (.lst xs)) : EvLw (tVar i) σ H xs := fun H1 e Q q => ⟨.ref p, hi, q p H1 (Evl.Ex.refl _) (e p _ hp)⟩
theorem el_cat {xs ys : List V} (ha : EvLw ta σ H xs) (hb : EvLw tb σ H ys) (hz : xs.length + ys.length ≤ 100000) : EvL (tOp rCat ta tb) σ H (xs ++ ys) := fun H1 e Q q =>
  ha H1 e _ fun p H2 e2 h2 => hb H2 (e.trans e2) _ fun r H3 e3 h3 => ⟨p, r, xs, ys, rfl, rfl, e3 p _ h2, h3, sz_of hz, fun u nu => q u _ (fresh_back (e2.trans e3) nu) ((e2.trans e3).trans (same_new nu)) upd_same⟩
theorem el_rep {xs : List V} {k : Int} (ha : EvLw ta σ H xs) (hb : Ev tb σ H (.int k)) (h0 : 0 ≤ k) (h1 : k ≤ 1000) (hz : xs.length * k.toNat ≤ 100000) : EvL (tOp rRep ta tb) σ H (List.replicate k.toNat xs).flatten := fun H1 e Q q =>
  ha H1 e _ fun p H2 e2 h2 => hb H2 (e.trans e2) _ fun H3 e3 => ⟨p, k, xs, rfl, rfl, e3 p _ h2, by omega, by omega, sz_of hz, fun u nu => q u _ (fresh_back (e2.trans e3) nu) ((e2.trans e3).trans (same_new nu)) upd_same⟩
end
end FW
set_option Elab.async false
set_option linter.all false
set_option maxRecDepth 100000
set_option maxHeartbeats 4000000
/-! ### enumerate(tuple): the call, its turns, a for over it -/
namespace PySem
open Sem (wp)
theorem fw_meets_enum1 {v : Value} {ob : Obj} {Hv : Heap → Prop} (B : Begins v ob Hv) :
    Meets (Builtin.«enumerate.__new__» ⟨[.type "enumerate", v], []⟩) (fun _ R s => Hv s.heap ∧
      R (.ok (.ret (.ref (s.heap.push ob).objs.size))) { s with heap := (s.heap.push ob).push { cls := .type "enumerate", data := .fields #[.none, .bool false, .ref s.heap.objs.size, rawInt 0, .none, .none] } }) :=
  .of_wp fun prog w A R s given => by
    obtain ⟨hp, gs, dr, tk, os⟩ := s
    obtain ⟨hv, rest⟩ := given
    have subE := sub_enumerate
    have begin1 : ∀ {A' : Around} {E' : Value → Shared → Prop} {Q' : Value → Shared → Prop}, Q' (.ref hp.objs.size) ⟨hp.push ob, gs, dr, tk, os⟩ → wpAny (model prog w) A' (pyIter v) Q' E' ⟨hp, gs, dr, tk, os⟩ :=
      fun q => B.iter prog w _ _ ⟨hp, gs, dr, tk, os⟩ _ hv q
    wp_walk using begin1
    refine wpAny_stack_any (fun stk => wpAny_pure ?_)
    split
    · rename_i ty _ _ _ _ _
      cases (ty == Value.type "enumerate")
      · wp_walk using begin1
        exact ⟨_, rfl, rest⟩
      · wp_walk using begin1
        exact ⟨_, rfl, rest⟩
    · wp_walk using begin1
      exact ⟨_, rfl, rest⟩
section
variable {prog : Program} {w : World} {A : Around} {E : Value → Shared → Prop} {s : Shared}
theorem fw_enum1 {v : Value} {ob : Obj} {Hv : Heap → Prop} {Q : Value → Shared → Prop} (B : Begins v ob Hv) (hv : Hv s.heap)
    (q : ∀ h', IsEnum h' (s.heap.objs.size + 1) s.heap.objs.size 0 .none → h'.get? s.heap.objs.size = some ob →
      (∀ b o, s.heap.get? b = some o → h'.get? b = some o) → Q (.ref (s.heap.objs.size + 1)) { s with heap := h' }) :
    wpAny (model prog w) A (call (.type "enumerate") [v]) Q E s := by
  refine callType_new F.called_enumerate (by decide) (F.typeCall_enumerate_1 _) (F.newCall_enumerate_1 _) (fun self => F.args_object_init_2 self _) F.entry_enumerate_new (fw_meets_enum1 B) ⟨hv, ?_⟩
  have size1 : (s.heap.push ob).objs.size = s.heap.objs.size + 1 := Heap.size_push ..
  show _ ∧ _
  rw [size1]
  have isE : IsEnum ((s.heap.push ob).push { cls := .type "enumerate", data := .fields #[.none, .bool false, .ref s.heap.objs.size, rawInt 0, .none, .none] }) (s.heap.objs.size + 1) s.heap.objs.size 0 .none := by
    have z := Heap.get?_push_size (s.heap.push ob) (o := { cls := .type "enumerate", data := .fields #[.none, .bool false, .ref s.heap.objs.size, rawInt 0, .none, .none] }) rfl
    rw [size1] at z
    exact z
  exact ⟨⟨_, isE, rfl⟩, q _ isE (Heap.get?_push_of_some _ (Heap.get?_push_size _ B.free)) fun b o x => Heap.get?_push_of_some _ (Heap.get?_push_of_some _ x)⟩
end
end PySem
namespace FW
open PySem PySem.Spec PyProof.Rows L2
/-- the tuple at a, each item in a new pair -/
def Iet (K : PySem.W.Frag) (a : Addr) : It :=
  ⟨fun i H => ∃ (xs : List V) (x : V), SqT K H a xs ∧ xs[i]? = some x, fun i H v H' => ∃ T x, v = .ref T ∧ H T = none ∧ H' = upd H T (.tup [.int (i : Nat), x]) ∧ ∀ xs, SqT K H a xs → xs[i]? = some x, fun i H => ∃ xs : List V, SqT K H a xs ∧ xs.length = i⟩
theorem turn_enumT {P : Program} {w : World} {K : PySem.W.Frag} {elts : List Expr} {kk : Nat} {tpos : Pos} (a e it : Addr) (hae : a ≠ e) (hai : a ≠ it) :
    Turn P w K (.Tuple elts kk tpos) (Iet K a) [e, it] e (fun i h => (∃ old, IsEnum h e it ((i : Nat) : Int) old) ∧ h.IsTupleIter it a i ∧ e ≠ it) where
  mem := by simp
  obj := fun i h st b hb => by
    obtain ⟨⟨old, isE⟩, ⟨o, ho, _, hd⟩, _⟩ := st
    have two : b = e ∨ b = it := by simpa using hb
    rcases two with rfl | rfl
    · exact ⟨_, isE, fun v q => nomatch q⟩
    · exact ⟨o, ho, fun v q => by rw [hd] at q; cases q⟩
  keep := fun i h h' st k => by
    obtain ⟨⟨old, isE⟩, isI, ne⟩ := st
    exact ⟨⟨old, k e (by simp) _ isE⟩, isI.at fun o q => k it (by simp) o q, ne⟩
  item := by
    intro X e1 e2 e3 hc i pins s σ H E I hf st hg
    subst e1 e2 e3
    obtain ⟨⟨old, isE⟩, isI, ne⟩ := st
    obtain ⟨xs, x, hq, hx⟩ := hg
    obtain ⟨its, rv, isT, _⟩ := I.tuple hq
    obtain ⟨u, atU, ru⟩ := rv.get hx
    have elt : e < s.heap.objs.size := Heap.lt_size isE
    have ilt : it < s.heap.objs.size := by
      obtain ⟨_, q, _⟩ := id isI
      exact Heap.lt_size q
    have hd1 : X.A.in1.handled = none := I.ok.hd hc
    have D := Draws.tuple (prog := X.prog) (w := X.w) (A := X.A.in1) hd1 it a hai its.toArray
    have hi : i < its.toArray.size := by
      have := (List.getElem?_eq_some_iff.mp atU).1
      simpa using this
    refine wpAny_pyNext_enum_itemD (i := i) D isE ⟨isI, isT⟩ hi ne (by simp [hae.symm, ne]) fun y h' tk hy hout hst hT hsz hk => ?_
    have ey : y = u := by
      have z : its[i]? = some y := by simpa using hy
      exact Option.some.inj (z.symm.trans atU)
    subst ey
    refine ⟨_, rfl, wpAny_letOwnedTupleGo_enum (s := { s with heap := h', toks := tk + 1 }) hout fun h2 isE2 sb => ?_⟩
    have hT2 : h2.get? s.heap.objs.size = some { cls := .type "tuple", data := .seq #[.int i tk, y] } := (sb.2 _ (Nat.ne_of_gt elt)).trans hT
    have new : ObjOk X.prog X.w (upd H s.heap.objs.size (.tup [.int (i : Nat), x])) h2 s.heap.objs.size (.tup [.int (i : Nat), x]) :=
      ⟨by show 2 ≤ sizeLine; decide, [.int i tk, y], .cons ⟨_, rfl⟩ (.cons ru .nil), ⟨_, hT2, rfl, _, rfl⟩⟩
    have I1 : Inv X pins σ (upd H s.heap.objs.size (.tup [.int (i : Nat), x])) { s with heap := h2, toks := tk + 1 } :=
      I.turnedNew (ch := [e, it]) (fun b ob hb q => (sb.2 b (fun z => hb (by rw [z]; simp))).trans (hk b ob (fun z => hb (by rw [z]; simp)) (fun z => hb (by rw [z]; simp)) q)) hf (Nat.le_refl _) new
    refine ⟨.ref s.heap.objs.size, _, I1, rfl, ⟨_, x, rfl, I.hok.fresh (Nat.le_refl _), rfl, fun ys hy => ?_⟩, ⟨⟨y, ?_⟩, hst.1.at fun o q => (sb.2 it (Ne.symm ne)).trans q, ne⟩, fun b hb => ?_⟩
    · rw [I.tuple_inj hy hq]
      exact hx
    · have plus : ((i + 1 : Nat) : Int) = (i : Int) + 1 := by omega
      rw [plus]
      exact isE2
    · have below : b < s.heap.objs.size := by
        have two : b = e ∨ b = it := by simpa using hb
        rcases two with rfl | rfl
        · exact elt
        · exact ilt
      rw [upd_ne (Nat.ne_of_lt below)]
      exact (hf b hb).1
  done := by
    intro X e1 e2 e3 hc i pins s σ H E I hf st hg
    subst e1 e2 e3
    obtain ⟨⟨old, isE⟩, isI, ne⟩ := st
    obtain ⟨xs, hq, hx⟩ := hg
    obtain ⟨its, rv, isT, _⟩ := I.tuple hq
    have hd1 : X.A.in1.handled = none := I.ok.hd hc
    have D := Draws.tuple (prog := X.prog) (w := X.w) (A := X.A.in1) hd1 it a hai its.toArray
    obtain ⟨f0, f1, f2, f3, f4, f5⟩ := hf it (by simp)
    have ei : i = its.toArray.size := by
      have z := rv.length
      rw [← hx, z]
      simp
    refine wpAny_pyNext_enum_endD D isE (by rw [← ei]; exact ⟨isI, isT⟩) fun h' eb => ⟨rfl, I.turned (t' := s.toks) (fun b o hb q => eb b o hb q) f0 f1 f3 f4 f5⟩
  self := fun A i s Q E st h => by
    obtain ⟨⟨_, isE⟩, _⟩ := st
    exact wpAny_pyIter_enum isE h
theorem walk_enumT {K : PySem.W.Frag} {a : Addr} {xs : List V} : Walk (Iet K a) xs.length (fun H => SqT K H a xs) (YPair (fun i => some (.int (i : Nat))) (fun i => xs[i]?)) := by
  refine ⟨fun i _ hi q => ⟨xs, xs[i], q, by simp [hi]⟩, fun _ q => ⟨xs, q, rfl⟩, fun i H v H' _ q y => ?_⟩
  obtain ⟨T, x, h1, h2, h3, h4⟩ := y
  exact ⟨T, .int (i : Nat), x, h1, h2, h3, rfl, h4 xs q⟩
def iEnumT (K : PySem.W.Frag) (ta : TA) : TI := fun σ H R => ta σ H fun us H1 => ∃ a xs, us = [.ref a] ∧ SqT K H1 a xs ∧ R (Iet K a) H1
theorem pi_enumT {X : Cx} {e : Expr} {ta : TA} {p pos tpos : Pos} {elts : List Expr} {kk : Nat} (hg : Gl X "enumerate") (hm : X.mg "enumerate" = none) (ha : PA X [e] ta) (hs : starEach [e] X.env = [(false, eval e X.env)] := by rfl) :
    PI X (.Tuple elts kk tpos) (.Call (.Name "enumerate" p) [e] [] pos) (iEnumT X.K ta) := by
  refine ⟨fun pins s σ H R I hr => ?_⟩
  refine Call_ (ld_blt I hg hm boot_enumerate (PyProof.Rows.callWith_type1 (thn (ha.run pos pins s σ H _ I hr) fun ws s1 ⟨us, H1, I1, r1, q1⟩ => ?_) hs rfl))
  obtain ⟨a, xs, rfl, hq, q⟩ := q1
  cases r1 with
  | cons r rr =>
    cases rr
    cases r
    obtain ⟨its, rv, isT, _⟩ := I1.tuple hq
    have isT' : s1.heap.IsTuple a its.toArray := isT
    have alt : a < s1.heap.objs.size := by
      obtain ⟨_, z, _⟩ := isT'
      exact Heap.lt_size z
    refine fw_enum1 (begins_tuple a its.toArray) isT' fun h' isE ob hk => wpAny_pyIter_enum isE ?_
    have I2 : Inv X pins σ H1 { s1 with heap := h' } := I1.kept (t' := s1.toks) hk
    refine ⟨s1.heap.objs.size + 1, [s1.heap.objs.size + 1, s1.heap.objs.size], _, _, H1, rfl, I2, turn_enumT a (s1.heap.objs.size + 1) s1.heap.objs.size (Nat.ne_of_lt (Nat.lt_succ_of_lt alt)) (Nat.ne_of_lt alt), ⟨⟨.none, isE⟩, ⟨_, ob, rfl, rfl⟩, Nat.succ_ne_self _⟩, fun b hb => ?_, q⟩
    have above : s1.heap.objs.size ≤ b := by
      have two : b = s1.heap.objs.size + 1 ∨ b = s1.heap.objs.size := by simpa using hb
      rcases two with z | z
      · rw [z]
        exact Nat.le_succ _
      · exact Nat.le_of_eq z.symm
    exact I1.fpOk above (I1.hok.fresh above)
end FW
set_option Elab.async false
set_option linter.all false
set_option maxRecDepth 100000
set_option maxHeartbeats 4000000
namespace FW
open PySem PySem.Spec PyProof.Rows L2
open Evl (Ex Ev EvT EvA EvL EvU RC RV fresh_back)
/-! ### data: what may stand in a program, or near it -/
mutual
inductive Da (H : Hp) : V → PyData → Prop where
  | non : Da H .non .none
  | bl (b : Bool) : Da H (.bl b) (.bool b)
  | int (i : Int) : Da H (.int i) (.int i)
  | str (x : Str) : Da H (.str x) (.str x)
  | lst {a : Addr} {xs : List V} {ds : List PyData} : H a = some (.lst xs) → DaAll H xs ds → Da H (.ref a) (.list ds)
  | tup {a : Addr} {xs : List V} {ds : List PyData} : H a = some (.tup xs) → DaAll H xs ds → Da H (.ref a) (.tuple ds)
  | dic {a : Addr} : H a = some (.dK []) → Da H (.ref a) (.dict [])
inductive DaAll (H : Hp) : List V → List PyData → Prop where
  | nil : DaAll H [] []
  | cons {v : V} {vs : List V} {d : PyData} {ds : List PyData} : Da H v d → DaAll H vs ds → DaAll H (v :: vs) (d :: ds)
end
mutual
theorem Da.ex {H H' : Hp} (e : Ex H H') : ∀ {v : V} {d : PyData}, Da H v d → Da H' v d
  | _, _, .non => .non
  | _, _, .bl b => .bl b
  | _, _, .int i => .int i
  | _, _, .str x => .str x
  | _, _, .lst h a => .lst (e _ _ h) (DaAll.ex e a)
  | _, _, .tup h a => .tup (e _ _ h) (DaAll.ex e a)
  | _, _, .dic h => .dic (e _ _ h)
theorem DaAll.ex {H H' : Hp} (e : Ex H H') : ∀ {vs : List V} {ds : List PyData}, DaAll H vs ds → DaAll H' vs ds
  | _, _, .nil => .nil
  | _, _, .cons h r => .cons (Da.ex e h) (DaAll.ex e r)
end
theorem DaAll.len {H : Hp} : ∀ {vs : List V} {ds : List PyData}, DaAll H vs ds → vs.length = ds.length
  | _, _, .nil => rfl
  | _, _, .cons _ r => by rw [List.length_cons, List.length_cons, DaAll.len r]
theorem DaAll.at {H : Hp} : ∀ {vs : List V} {ds : List PyData} {i : Nat} {v : V}, DaAll H vs ds → vs[i]? = some v → ∃ d, ds[i]? = some d ∧ Da H v d
  | _, _, _, _, .nil, e => by simp at e
  | _, _, 0, _, .cons h _, e => ⟨_, rfl, Option.some.inj e ▸ h⟩
  | _, _, i + 1, _, .cons _ r, e => DaAll.at (i := i) r e
theorem DaAll.of {H : Hp} : ∀ {vs : List V} {ds : List PyData} {i : Nat} {d : PyData}, DaAll H vs ds → ds[i]? = some d → ∃ v, vs[i]? = some v ∧ Da H v d
  | _, _, _, _, .nil, e => by simp at e
  | _, _, 0, _, .cons h _, e => ⟨_, rfl, Option.some.inj e ▸ h⟩
  | _, _, i + 1, _, .cons _ r, e => DaAll.of (i := i) r e
theorem DaAll.app {H : Hp} : ∀ {vs us : List V} {ds es : List PyData}, DaAll H vs ds → DaAll H us es → DaAll H (vs ++ us) (ds ++ es)
  | _, _, _, _, .nil, r => r
  | _, _, _, _, .cons h t, r => .cons h (DaAll.app t r)
/-- the built-in type of a datum -/
def tyD : PyData → String
  | .none => "NoneType" | .bool _ => "bool" | .int _ => "int" | .str _ => "str" | .list _ => "list" | .tuple _ => "tuple" | .dict _ => "dict"
theorem Da.ty {K : PySem.W.Frag} {H : Hp} {v : V} {d : PyData} (h : Da H v d) : TyX K H v (.type (tyD d)) := by
  cases h with
  | non => exact .base .non
  | bl b => exact .base (.bl b)
  | int i => exact .base (.int i)
  | str x => exact .base (.str x)
  | lst h _ => exact .base (.lst h)
  | tup h _ => exact .base (.tup h)
  | dic h => exact .base (.dK h)
def isTyS (s t : String) : Bool := match kitB s t with
  | some b => b
  | none => false
def isTy (d : PyData) (t : String) : Bool := isTyS (tyD d) t
theorem tyD_mem (d : PyData) : tyD d ∈ ["NoneType", "bool", "int", "str", "list", "tuple", "dict"] := by cases d <;> simp [tyD]
theorem kit_d {K : PySem.W.Frag} (d : PyData) {t : String} (h : t = "int" ∨ t = "bool" ∨ t = "str" ∨ t = "tuple" ∨ t = "list") : PySem.W.kitOne K (.type (tyD d)) (.type t) = some (isTy d t) := by
  have e0 : ∀ s ∈ ["NoneType", "bool", "int", "str", "list", "tuple", "dict"], (kitB s t).isSome = true := by
    rcases h with rfl | rfl | rfl | rfl | rfl <;> decide +kernel
  obtain ⟨b, e⟩ := Option.isSome_iff_exists.mp (e0 _ (tyD_mem d))
  rw [kit_ty e]
  unfold isTy isTyS
  rw [e]
theorem ty_int (d : PyData) : isTy d "int" = (match d with | .int _ => true | .bool _ => true | _ => false) := by cases d <;> (unfold isTy; simp only [tyD]; decide +kernel)
theorem ty_bool (d : PyData) : isTy d "bool" = (match d with | .bool _ => true | _ => false) := by cases d <;> (unfold isTy; simp only [tyD]; decide +kernel)
theorem ty_str (d : PyData) : isTy d "str" = (match d with | .str _ => true | _ => false) := by cases d <;> (unfold isTy; simp only [tyD]; decide +kernel)
theorem ty_tuple (d : PyData) : isTy d "tuple" = (match d with | .tuple _ => true | _ => false) := by cases d <;> (unfold isTy; simp only [tyD]; decide +kernel)
theorem ty_list (d : PyData) : isTy d "list" = (match d with | .list _ => true | _ => false) := by cases d <;> (unfold isTy; simp only [tyD]; decide +kernel)
/-- isinstance(v, t), v a datum -/
theorem rc_isi {K : PySem.W.Frag} {H : Hp} {v : V} {d : PyData} {t : String} (h : Da H v d) (ht : t = "int" ∨ t = "bool" ∨ t = "str" ∨ t = "tuple" ∨ t = "list") : RC (rIsi K) [v, .ty t] H (.bl (isTy d t)) := fun H1 e Q q =>
  ⟨v, .ty t, _, .type t, _, rfl, .ty t, (h.ex e).ty, kit_d d ht, q H1 (Evl.Ex.refl _)⟩
/-! ### what the program's recognizers say of data -/
def isInt : PyData → Bool
  | .int _ => true
  | _ => false
def isIn (d : PyData) (lo hi : Int) : Bool := match d with
  | .int i => decide (lo ≤ i) && decide (i ≤ hi)
  | _ => false
def isTup (d : PyData) (n : Int) : Bool := match d with
  | .tuple ds => decide ((ds.length : Int) = n)
  | _ => false
theorem isIn_int {d : PyData} {lo hi : Int} (h : isIn d lo hi = true) : ∃ i, d = .int i ∧ lo ≤ i ∧ i ≤ hi := by
  cases d with
  | int i =>
    have z : (decide (lo ≤ i) && decide (i ≤ hi)) = true := h
    rw [Bool.and_eq_true, decide_eq_true_eq, decide_eq_true_eq] at z
    exact ⟨i, rfl, z⟩
  | _ => cases h
theorem isTup_tup {d : PyData} {n : Int} (h : isTup d n = true) : ∃ ds, d = .tuple ds ∧ (ds.length : Int) = n := by
  cases d with
  | tuple ds => exact ⟨ds, rfl, of_decide_eq_true h⟩
  | _ => cases h
/-- a promise: the value b, the heap grown -/
def Ret (b : V) (H : Hp) (Q : VK) : Prop := ∀ H2, Ex H H2 → Q b H2
theorem sv_ret {sp : Sp} {vs : List V} {H : Hp} {z : V} (h : ∀ H1, Ex H H1 → ∀ Q : VK, Ret z H1 Q → sp vs H1 Q E0) {σ : L2.St} {ta : TA} (ha : EvA ta σ H vs) : Ev (tCall sp [] E0 ta) σ H z := fun H1 e Q q =>
  ha H1 e _ fun H2 e2 => by
    rw [List.append_nil]
    exact h H2 (e.trans e2) Q fun H3 e3 => q H3 (e2.trans e3)
theorem start_ev {te : TE} {σ : L2.St} {H : Hp} {z : V} {Q : VK} (h : Ev te σ H z) (q : Ret z H Q) : te σ H Q := h H (Evl.Ex.refl _) Q q
/-! ### a dict that the module has written -/
def KD (K : PySem.W.Frag) (P : Params) (p : Addr) (kvs : List (Str × V)) : Prop := ∃ es n, K.lookup p = some ⟨.type "dict", none, .dict es n, #[]⟩ ∧ PySem.W.KeysLit P es.toList ∧ (p == sysModules) = false ∧
  Paired (fun (e : DictEntry) (kv : Str × V) => (∃ t, e.key = .str kv.1 t) ∧ RelV kv.2 e.val) es.toList kvs
theorem kd_find {es : List DictEntry} {kvs : List (Str × V)} (h : Paired (fun (e : DictEntry) (kv : Str × V) => (∃ t, e.key = .str kv.1 t) ∧ RelV kv.2 e.val) es kvs) (z : Str) :
    RelO (kvs.lookup z) ((es.find? fun e => Value.isStrOf z e.key).map (·.val)) := by
  induction h with
  | nil => trivial
  | @cons e kv es kvs h _ ih =>
    obtain ⟨⟨t, ek⟩, r⟩ := h
    obtain ⟨k, v⟩ := kv
    dsimp only at ek r
    by_cases c : z = k
    · subst c
      rw [List.find?_cons_of_pos (by rw [ek]; simp [Value.isStrOf])]
      simp only [List.lookup, beq_self_eq_true]
      exact r
    · have c2 : (z == k) = false := beq_eq_false_iff_ne.mpr c
      rw [List.find?_cons_of_neg (by rw [ek]; simp [Value.isStrOf]; exact fun q => c q.symm)]
      simp only [List.lookup, c2]
      exact ih
def rInKD (K : PySem.W.Frag) (w : World) : R2 := fun x y H Q => ∃ p z kvs, x = .str z ∧ y = .ref p ∧ KD K w.params p kvs ∧ Q (.bl (kvs.lookup z).isSome) H
def rIxKD (K : PySem.W.Frag) (w : World) : R2 := fun x y H Q => ∃ p z kvs v, x = .ref p ∧ y = .str z ∧ KD K w.params p kvs ∧ kvs.lookup z = some v ∧ Q v H
section
variable {X : Cx}
theorem op_inKD : OpR X (compareOp .In) (rInKD X.K X.w) := by
  intro pins s σ H x y v u Q I rx ry h
  obtain ⟨p, z, kvs, rfl, rfl, ⟨es, n, hl, hk, lo, hp⟩, q⟩ := h
  obtain ⟨t, rfl⟩ := rx
  obtain rfl : u = Value.ref p := ry
  have hf := kd_find hp z
  have e : findBy Value.isStrOf es z = (es.toList.find? fun e => Value.isStrOf z e.key).map (·.val) := by
    unfold findBy
    rw [← Array.find?_toList]
  refine wpAny_in_of (strKind_is X.prog X.w z t) lo (PySem.W.mapOf_K (prog := X.prog) (w := X.w) I.kIn hl hk) ⟨.bl (kvs.lookup z).isSome, H, I.tok _, ?_, q⟩
  rw [e]
  cases c1 : kvs.lookup z with
  | none =>
    rw [c1] at hf
    cases c2 : (es.toList.find? fun e => Value.isStrOf z e.key).map (·.val) with
    | none => exact rfl
    | some u =>
      rw [c2] at hf
      exact hf.elim
  | some v =>
    rw [c1] at hf
    cases c2 : (es.toList.find? fun e => Value.isStrOf z e.key).map (·.val) with
    | none =>
      rw [c2] at hf
      exact hf.elim
    | some u => exact rfl
theorem ix_KD : IxR X (rIxKD X.K X.w) := by
  intro ve sl pins s σ H x y v u Q I rx ry h hs
  obtain ⟨p, z, kvs, r, rfl, rfl, ⟨es, n, hl, hk, lo, hp⟩, er, q⟩ := h
  obtain rfl : v = Value.ref p := rx
  obtain ⟨t, rfl⟩ := ry
  have hf := kd_find hp z
  rw [er] at hf
  have e : findBy Value.isStrOf es z = (es.toList.find? fun e => Value.isStrOf z e.key).map (·.val) := by
    unfold findBy
    rw [← Array.find?_toList]
  cases c2 : (es.toList.find? fun e => Value.isStrOf z e.key).map (·.val) with
  | none =>
    rw [c2] at hf
    exact hf.elim
  | some u0 =>
    rw [c2] at hf
    have hm := PySem.W.mapOf_K (prog := X.prog) (w := X.w) I.kIn hl hk
    exact tail_any hm.typeIs slot_dict_getitem.lookup (wpAny_getItem_of (strKind_is X.prog X.w z t) hm (e.trans c2) ⟨r, H, I.tok _, hf, q⟩) hs
end
end FW
set_option Elab.async false
set_option linter.all false
set_option maxRecDepth 100000
set_option maxHeartbeats 4000000
namespace FW
open PySem PySem.Spec PyProof.Rows L2
open Evl (Ex Ev EvT EvA EvL EvU RC RV fresh_back)
/-! ### the mirror of is_program over data -/
def formsI : List (Str × List Str) := [("number", ["slot", "number"]), ("copy", ["slot", "slot"]), ("add", ["slot", "number"]), ("read", ["slot", "unit", "field"]), ("write", ["unit", "field", "slot"]), ("fail", [])]
def formsF : List (Str × List Str) := [("input", ["slot"]), ("show", ["slot"]), ("branch", ["place"]), ("call", ["later function"]), ("wake", ["unit", "later place"])]
def kindsOf (b : Bool) (w : Str) : Option (List Str) := if (formsI.lookup w).isSome then formsI.lookup w else if b && (formsF.lookup w).isSome then formsF.lookup w else none
/-- the least and the greatest operand of each kind, fields apart -/
abbrev Lims := List (Str × (Int × Int))
def limsI (n : Nat) : List (Str × (Int × Int)) := [("slot", (0, 2)), ("number", (0, 65535)), ("unit", (0, (n : Int) - 1))]
def limsE (n : Nat) (size : Nat) (own nf : Int) : List (Str × (Int × Int)) := (limsI n ++ [(("place" : Str), ((0 : Int), (size : Int)))]) ++ [(("later function" : Str), (own + 1, nf - 1))]
def limsF (n : Nat) (size : Nat) (own nf : Int) (place : Int) : List (Str × (Int × Int)) := limsE n size own nf ++ [(("later place" : Str), (place + 1, (size : Int)))]
def okOp (lims : Lims) (fs : List Int) (prev : PyData) (kind : Str) (d : PyData) : Bool :=
  if kind = "field" then (match prev with
    | .int u => isIn d 0 (fs.getD u.toNat 0 - 1)
    | _ => false)
  else (match lims.lookup kind with
    | some (lo, hi) => isIn d lo hi
    | none => false)
def okOps (lims : Lims) (fs : List Int) (ds : List PyData) (ks : List Str) : Bool := (List.range ks.length).all fun i => okOp lims fs (ds.getD i .none) (ks.getD i "") (ds.getD (i + 1) .none)
def okIns (b : Bool) (lims : Lims) (fs : List Int) (d : PyData) : Bool := match d with
  | .tuple (.str w :: r) => (match kindsOf b w with
    | some ks => decide (r.length = ks.length) && okOps lims fs (.str w :: r) ks
    | none => false)
  | _ => false
def okInit (fs : List Int) (d : PyData) : Bool := match d with
  | .tuple ds => decide (ds.length ≤ 6) && ds.all (okIns false (limsI fs.length) fs)
  | _ => false
def okCode (own nf : Int) (fs : List Int) (d : PyData) : Bool := match d with
  | .tuple ds => decide (1 ≤ ds.length) && decide (ds.length ≤ 8) && (List.range ds.length).all fun i => okIns true (limsF fs.length ds.length own nf (i : Nat)) fs (ds.getD i .none)
  | _ => false
def isNonD : PyData → Bool
  | .none => true
  | _ => false
def okUnit (n : Int) (d : PyData) : Bool := match d with
  | .tuple [p, f, _] => (isNonD p || isIn p 0 (n - 1)) && isIn f 0 3
  | _ => false
def okUnits (d : PyData) : Bool := match d with
  | .tuple ds => decide (1 ≤ ds.length) && decide (ds.length ≤ 6) && (List.range ds.length).all fun i => okUnit (i : Nat) (ds.getD i .none)
  | _ => false
def okFun (nu : Int) (d : PyData) : Bool := match d with
  | .tuple [u, _] => isIn u 0 (nu - 1)
  | _ => false
def okFuns (nu : Int) (d : PyData) : Bool := match d with
  | .tuple ds => decide (1 ≤ ds.length) && decide (ds.length ≤ 4) && ds.all (okFun nu)
  | _ => false
def fieldsD (d : PyData) : Int := match d with
  | .tuple [_, .int f, _] => f
  | _ => 0
def bodyD (d : PyData) : PyData := match d with
  | .tuple [_, _, b] => b
  | .tuple [_, b] => b
  | _ => .none
def okProg (d : PyData) : Bool := match d with
  | .tuple [.tuple us, .tuple fns] => okUnits (.tuple us) && okFuns (us.length : Nat) (.tuple fns) && us.all (fun u => okInit (us.map fieldsD) (bodyD u)) &&
      (List.range fns.length).all fun i => okCode (i : Nat) (fns.length : Nat) (us.map fieldsD) (bodyD (fns.getD i .none))
  | _ => false
theorem look_snoc {l : Lims} {k : Str} {y : Int × Int} (hn : l.lookup k = none) : ∀ (j : Str) (x : Int × Int), (l ++ [(k, y)]).lookup j = some x → if j = k then x = y else l.lookup j = some x := by
  intro j x h
  induction l with
  | nil =>
    rw [List.nil_append] at h
    simp only [List.lookup] at h
    by_cases c : j = k
    · rw [if_pos c]
      subst c
      rw [beq_self_eq_true] at h
      exact (Option.some.inj h).symm
    · rw [beq_eq_false_iff_ne.mpr c] at h
      cases h
  | cons e r ih =>
    obtain ⟨a, b⟩ := e
    rw [List.cons_append] at h
    simp only [List.lookup] at h hn ⊢
    cases ca : k == a with
    | true =>
      rw [ca] at hn
      cases hn
    | false =>
      rw [ca] at hn
      cases cb : j == a with
      | true =>
        rw [cb] at h
        have ne : j ≠ k := fun e => by
          rw [e, ca] at cb
          cases cb
        rw [if_neg ne]
        exact h
      | false =>
        rw [cb] at h
        exact ih hn h
/-- the kinds that need a limit -/
def needed (b : Bool) : List Str := if b then ["slot", "number", "unit", "place", "later function", "later place"] else ["slot", "number", "unit"]
def goodKs (b : Bool) (ks : List Str) : Bool := ks.all (fun k => k == "field" || (needed b).contains k) && (List.range ks.length).all fun i => !(ks.getD i "" == "field") || (decide (0 < i) && ks.getD (i - 1) "" == "unit")
theorem look_mem {fm : List (Str × List Str)} {w : Str} {ks : List Str} (h : fm.lookup w = some ks) : ks ∈ fm.map (·.2) := by
  induction fm with
  | nil => cases h
  | cons e r ih =>
    obtain ⟨a, b⟩ := e
    simp only [List.lookup] at h
    rw [List.map_cons]
    split at h
    · cases h
      exact List.mem_cons_self
    · exact List.mem_cons_of_mem _ (ih h)
theorem kinds_good {b : Bool} {w : Str} {ks : List Str} (h : kindsOf b w = some ks) : goodKs b ks = true := by
  unfold kindsOf at h
  split at h
  · have m := look_mem h
    have all : ∀ b, ∀ ks ∈ formsI.map (·.2), goodKs b ks = true := by decide +kernel
    exact all b ks m
  · split at h
    · rename_i c
      have m := look_mem h
      have all : ∀ ks ∈ formsF.map (·.2), goodKs true ks = true := by decide +kernel
      rw [Bool.and_eq_true] at c
      rw [c.1]
      exact all ks m
    · cases h
theorem good_needed {b : Bool} {ks : List Str} {k : Str} (h : goodKs b ks = true) (hk : k ∈ ks) (hf : k ≠ "field") : k ∈ needed b := by
  unfold goodKs at h
  rw [Bool.and_eq_true, List.all_eq_true] at h
  have z := h.1 k hk
  rw [beq_eq_false_iff_ne.mpr hf, Bool.false_or] at z
  exact List.contains_iff_mem.mp z
theorem good_field {b : Bool} {ks : List Str} {i : Nat} (h : goodKs b ks = true) (hi : ks[i]? = some ("field" : Str)) : 0 < i ∧ ks[i - 1]? = some ("unit" : Str) := by
  unfold goodKs at h
  rw [Bool.and_eq_true, List.all_eq_true, List.all_eq_true] at h
  obtain ⟨hlt, he⟩ := List.getElem?_eq_some_iff.mp hi
  have z := h.2 i (List.mem_range.mpr hlt)
  have e : ks.getD i "" = "field" := by rw [List.getD_eq_getElem?_getD, hi]; rfl
  rw [e, beq_self_eq_true, Bool.not_true, Bool.false_or, Bool.and_eq_true] at z
  have p := of_decide_eq_true z.1
  refine ⟨p, ?_⟩
  have hl : i - 1 < ks.length := by omega
  have e2 := eq_of_beq z.2
  rw [List.getD_eq_getElem?_getD, List.getElem?_eq_getElem hl] at e2
  rw [List.getElem?_eq_getElem hl]
  exact congrArg some e2
theorem okOps_no {lims : Lims} {fs : List Int} {ds : List PyData} {ks : List Str} {i : Nat} (hi : i < ks.length) (h : okOp lims fs (ds.getD i .none) (ks.getD i "") (ds.getD (i + 1) .none) = false) : okOps lims fs ds ks = false := by
  unfold okOps
  rw [Bool.eq_false_iff]
  intro z
  rw [List.all_eq_true] at z
  rw [z i (List.mem_range.mpr hi)] at h
  cases h
theorem okOps_yes {lims : Lims} {fs : List Int} {ds : List PyData} {ks : List Str} (h : ∀ i, i < ks.length → okOp lims fs (ds.getD i .none) (ks.getD i "") (ds.getD (i + 1) .none) = true) : okOps lims fs ds ks = true := by
  unfold okOps
  rw [List.all_eq_true]
  exact fun i hi => h i (List.mem_range.mp hi)
theorem getD_at {α : Type} {l : List α} {i : Nat} {x d : α} (h : l[i]? = some x) : l.getD i d = x := by
  rw [List.getD_eq_getElem?_getD, h]
  rfl
/-! ### comprehensions without tests over a tuple, over its enumeration -/
section
variable {K : PySem.W.Frag} {σ : L2.St} {H : Hp} {te tx : TE} {ta : TA}
theorem range_snoc {f : Nat → V} (i : Nat) : (List.range (i + 1)).map f = (List.range i).map f ++ [f i] := by
  rw [List.range_succ, List.map_append]
  rfl
/-- what stands of the new list within -/
def Mk (H : Hp) (f : Nat → V) (Dl : Addr) (i : Nat) (H' : Hp) : Prop := H Dl = none ∧ Ex H H' ∧ H' Dl = some (.lst ((List.range i).map f))
theorem mk_turn {H H' : Hp} {f : Nat → V} {Dl : Addr} {i : Nat} {σ2 : L2.St} (p : Mk H f Dl i H') (hi : i < 50000) (he : Ev te σ2 H' (f i)) :
    te σ2 H' fun y H4 => ∃ acc, H4 Dl = some (.lst acc) ∧ acc.length < sizeLine ∧ Mk H f Dl (i + 1) (upd H4 Dl (.lst (acc ++ [y]))) := by
  obtain ⟨p1, p2, p3⟩ := p
  refine he H' (Evl.Ex.refl _) _ fun H4 e4 => ⟨(List.range i).map f, e4 Dl _ p3, sz_lt (by rw [List.length_map, List.length_range]; omega), p1, Evl.Ex.mut (p2.trans e4) p1, ?_⟩
  rw [range_snoc]
  exact upd_same
theorem el_lcT {a : Addr} {xs : List V} {j : Nat} {vs : List Nat} (f : Nat → V) (h : Ev tx σ H (.ref a)) (hx : SqT K H a xs) (hz : xs.length ≤ 40000) (hw : ∀ x, wipe ((wipe σ vs).set j (some x)) vs = wipe σ vs)
    (he : ∀ (k : Nat) (x : V) H1, Ex H H1 → xs[k]? = some x → Ev te ((wipe σ vs).set j (some x)) H1 (f k)) : EvL (tLc (iTup K tx) (gName j) tYes te vs) σ H ((List.range xs.length).map f) := fun H0 e Q q => h H0 e _ fun H1 e1 => ⟨a, rfl, ⟨xs, Evl.ex_t (e.trans e1) hx⟩, fun Dl hD =>
  lc_it (walk_tup (xs := xs)) (fun i H' => Mk H1 f Dl i H' ∧ Ex H H') ⟨⟨hD, Evl.Ex.new hD, upd_same⟩, (e.trans e1).trans (Evl.Ex.new hD)⟩ (fun i H' _ p => Evl.ex_t p.2 hx) (fun k x H' H'' hk p y => by
    obtain ⟨rfl, hx'⟩ := y
    refine ⟨hw x, ?_⟩
    show te _ _ _
    have t := mk_turn p.1 (by omega) (he k x H'' p.2 hx')
    exact he k x H'' p.2 hx' H'' (Evl.Ex.refl _) _ fun H4 e4 => by
      obtain ⟨p1, p2, p3⟩ := p.1
      refine ⟨(List.range k).map f, e4 Dl _ p3, sz_lt (by rw [List.length_map, List.length_range]; omega), ⟨p1, Evl.Ex.mut (p2.trans e4) p1, ?_⟩, Evl.Ex.mut (p.2.trans e4) (fresh_back (e.trans e1) p1)⟩
      rw [range_snoc]
      exact upd_same) (fun H' p => q Dl H' (fresh_back e1 p.1.1) (e1.trans p.1.2.1) p.1.2.2)⟩
theorem el_lcE {a : Addr} {xs : List V} {i j : Nat} {vs : List Nat} (f : Nat → V) (h : EvA ta σ H [.ref a]) (hx : SqT K H a xs) (hz : xs.length ≤ 40000) (hw : ∀ x y, wipe (((wipe σ vs).set i (some x)).set j (some y)) vs = wipe σ vs)
    (he : ∀ (k : Nat) (x : V) H1, Ex H H1 → xs[k]? = some x → Ev te (((wipe σ vs).set i (some (.int (k : Nat)))).set j (some x)) H1 (f k)) :
    EvL (tLc (iEnumT K ta) (gTup K 2 (gCons (gName i) (gCons (gName j) gNil))) tYes te vs) σ H ((List.range xs.length).map f) := fun H0 e Q q => h H0 e _ fun H1 e1 => ⟨a, xs, rfl, Evl.ex_t (e.trans e1) hx, fun Dl hD =>
  lc_it (walk_enumT (xs := xs)) (fun i H' => Mk H1 f Dl i H' ∧ Ex H H') ⟨⟨hD, Evl.Ex.new hD, upd_same⟩, (e.trans e1).trans (Evl.Ex.new hD)⟩ (fun i H' _ p => Evl.ex_t p.2 hx) (fun k x H' H'' hk p y => by
    obtain ⟨T, x1, x2, rfl, nT, rfl, f1, f2⟩ := y
    obtain rfl : x1 = .int (k : Nat) := (Option.some.inj f1).symm
    refine ⟨T, _, rfl, .inl (.inl upd_same), rfl, _, _, rfl, _, _, rfl, rfl, hw _ _, ?_⟩
    have eT := Evl.Ex.new nT (o := .tup [V.int (k : Nat), x2])
    show te _ _ _
    exact he k x2 _ (p.2.trans eT) f2 _ (Evl.Ex.refl _) _ fun H4 e4 => by
      obtain ⟨p1, p2, p3⟩ := p.1
      refine ⟨(List.range k).map f, e4 Dl _ (eT Dl _ p3), sz_lt (by rw [List.length_map, List.length_range]; omega), ⟨p1, Evl.Ex.mut ((p2.trans eT).trans e4) p1, ?_⟩, Evl.Ex.mut ((p.2.trans eT).trans e4) (fresh_back (e.trans e1) p1)⟩
      rw [range_snoc]
      exact upd_same) (fun H' p => q Dl H' (fresh_back e1 p.1.1) (e1.trans p.1.2.1) p.1.2.2)⟩
/-- all(..) of a new list of truth values -/
theorem ev_allN {K : PySem.W.Frag} {bs : List Bool} (h : EvLw tx σ H (bs.map V.bl)) : Ev (tCB (rAll K) (tCons tx tNil)) σ H (.bl (bs.all id)) := fun H1 e Q q =>
  h H1 e _ fun p H2 e2 h2 => ⟨p, bs, rfl, .inl (.inl h2), q H2 e2⟩
theorem bl_map {f : Nat → Bool} {n : Nat} : (List.range n).map (fun i => V.bl (f i)) = ((List.range n).map f).map V.bl := by
  rw [List.map_map]
  rfl
theorem all_map {f : Nat → Bool} {n : Nat} : ((List.range n).map f).all id = (List.range n).all f := by
  rw [List.all_map]
  rfl
/-- all of a list by places -/
theorem all_at {α : Type} {ds : List α} {g : α → Bool} {d : α} : (List.range ds.length).all (fun i => g (ds.getD i d)) = ds.all g := by
  induction ds with
  | nil => rfl
  | cons x r ih =>
    rw [List.length_cons, List.range_succ_eq_map, List.all_cons, List.all_cons, List.all_map, ← ih]
    rfl
end
end FW
set_option Elab.async false
set_option linter.all false
set_option maxRecDepth 100000
set_option maxHeartbeats 4000000
namespace FW
open PySem PySem.Spec PyProof.Rows L2
/-! ### a search in breadth, as both sides do it: entries (vertex, the one before, steps) in the order of finding -/
abbrev Ent := Nat × Option Nat × Nat
def hasE (E : List Ent) (o : Nat) : Bool := E.any fun e => decide (e.1 = o)
def add1 (w dp : Nat) (E : List Ent) (o : Nat) : List Ent := if hasE E o = true then E else E ++ [(o, some w, dp + 1)]
def addE (w dp : Nat) (E : List Ent) (os : List Nat) : List Ent := os.foldl (add1 w dp) E
def stE (nx : Nat → List Nat) (u : Nat) : Nat → List Ent
  | 0 => [(u, none, 0)]
  | k + 1 => match (stE nx u k)[k]? with
    | some (w, _, dp) => addE w dp (stE nx u k) (nx w)
    | none => stE nx u k
def FinE (nx : Nat → List Nat) (u : Nat) (E : List Ent) : Prop := ∃ k, stE nx u k = E ∧ E.length ≤ k
theorem hasE_iff {E : List Ent} {o : Nat} : hasE E o = true ↔ ∃ (i : Nat) (e : Ent), E[i]? = some e ∧ e.1 = o := by
  unfold hasE
  rw [List.any_eq_true]
  constructor
  · rintro ⟨e, he, h⟩
    obtain ⟨i, hi⟩ := List.getElem?_of_mem he
    exact ⟨i, e, hi, of_decide_eq_true h⟩
  · rintro ⟨i, e, hi, h⟩
    exact ⟨e, List.mem_of_getElem? hi, decide_eq_true h⟩
theorem hasE_mem {E : List Ent} {o : Nat} : hasE E o = true ↔ o ∈ E.map (·.1) := by
  unfold hasE
  rw [List.any_eq_true, List.mem_map]
  constructor
  · rintro ⟨e, he, h⟩
    exact ⟨e, he, of_decide_eq_true h⟩
  · rintro ⟨e, he, h⟩
    exact ⟨e, he, decide_eq_true h⟩
theorem nodup_len : ∀ {n : Nat} {l : List Nat}, l.Nodup → (∀ x ∈ l, x < n) → l.length ≤ n
  | 0, l, _, h => by
    cases l with
    | nil => exact Nat.le_refl _
    | cons x r => exact absurd (h x List.mem_cons_self) (Nat.not_lt_zero _)
  | n + 1, l, nd, h => by
    by_cases c : n ∈ l
    · have e := List.length_erase_of_mem c
      have pos : 0 < l.length := List.length_pos_of_mem c
      have ih := nodup_len (n := n) (l := l.erase n) (nd.erase n) fun x hx => by
        have z := (List.Nodup.mem_erase_iff nd).mp hx
        have := h x z.2
        have := z.1
        omega
      omega
    · exact Nat.le_succ_of_le (nodup_len nd fun x hx => by
        have := h x hx
        have : x ≠ n := fun e => c (e ▸ hx)
        omega)
structure GoodE (nx : Nat → List Nat) (u n : Nat) (E : List Ent) : Prop where
  hd : E[0]? = some (u, none, 0)
  nd : (E.map (·.1)).Nodup
  lt : ∀ e ∈ E, e.1 < n
  pr : ∀ (i : Nat) (e : Ent), E[i]? = some e → 0 < i → ∃ (j w : Nat) (q : Option Nat) (dp : Nat), j < i ∧ E[j]? = some (w, q, dp) ∧ e.2 = (some w, dp + 1) ∧ e.1 ∈ nx w
section
variable {nx : Nat → List Nat} {u n : Nat} {E : List Ent}
theorem good_one (h : u < n) : GoodE nx u n [(u, none, 0)] where
  hd := rfl
  nd := by simp
  lt := fun e he => by
    rw [List.mem_singleton] at he
    subst he
    exact h
  pr := fun i e h hi => by
    match i, h, hi with
    | i + 1, h, _ => simp at h
theorem GoodE.len (g : GoodE nx u n E) : E.length ≤ n := by
  have := nodup_len g.nd fun x hx => by
    obtain ⟨e, he, rfl⟩ := List.mem_map.mp hx
    exact g.lt e he
  rw [List.length_map] at this
  exact this
theorem at_app {α : Type} {l m : List α} {i : Nat} {x : α} (h : l[i]? = some x) : (l ++ m)[i]? = some x := by
  rw [List.getElem?_append_left (List.getElem?_eq_some_iff.mp h).1]
  exact h
theorem good_add1 {j w dp o : Nat} {q : Option Nat} (g : GoodE nx u n E) (hj : E[j]? = some (w, q, dp)) (ho : o ∈ nx w) (hn : o < n) : GoodE nx u n (add1 w dp E o) := by
  unfold add1
  split
  · exact g
  · rename_i c
    refine ⟨at_app g.hd, ?_, fun e he => ?_, fun i e he hi => ?_⟩
    · rw [List.map_append, List.map_cons, List.map_nil]
      rw [List.nodup_append]
      refine ⟨g.nd, by simp, fun a ha b hb => ?_⟩
      rw [List.mem_singleton] at hb
      subst hb
      intro e
      subst e
      exact c (hasE_mem.mpr ha)
    · rcases List.mem_append.mp he with he | he
      · exact g.lt e he
      · rw [List.mem_singleton] at he
        subst he
        exact hn
    · by_cases q : i < E.length
      · rw [List.getElem?_append_left q] at he
        obtain ⟨j', w', q', d', h1, h2, h3⟩ := g.pr i e he hi
        exact ⟨j', w', q', d', h1, at_app h2, h3⟩
      · rw [List.getElem?_append_right (by omega)] at he
        have : i - E.length = 0 := by
          by_cases z : i - E.length = 0
          · exact z
          · have : i - E.length = (i - E.length - 1) + 1 := by omega
            rw [this] at he
            simp at he
        rw [this] at he
        have he : (o, some w, dp + 1) = e := Option.some.inj he
        subst he
        have := (List.getElem?_eq_some_iff.mp hj).1
        exact ⟨j, w, _, dp, by omega, at_app hj, rfl, ho⟩
theorem add1_app {w dp o : Nat} : ∃ t, add1 w dp E o = E ++ t ∧ ∀ e ∈ t, e.2.2 = dp + 1 := by
  unfold add1
  split
  · exact ⟨[], (List.append_nil _).symm, fun e he => by cases he⟩
  · refine ⟨_, rfl, fun e he => ?_⟩
    rw [List.mem_singleton] at he
    subst he
    rfl
theorem addE_app {w dp : Nat} : ∀ {os : List Nat} {E : List Ent}, ∃ t, addE w dp E os = E ++ t ∧ ∀ e ∈ t, e.2.2 = dp + 1
  | [], E => ⟨[], (List.append_nil _).symm, fun e he => by cases he⟩
  | o :: os, E => by
    obtain ⟨t, h1, h2⟩ := add1_app (E := E) (w := w) (dp := dp) (o := o)
    obtain ⟨t', h3, h4⟩ := addE_app (w := w) (dp := dp) (os := os) (E := add1 w dp E o)
    refine ⟨t ++ t', ?_, fun e he => ?_⟩
    · show addE w dp (add1 w dp E o) os = _
      rw [h3, h1, List.append_assoc]
    · rcases List.mem_append.mp he with he | he
      · exact h2 e he
      · exact h4 e he
theorem good_addE {w dp j : Nat} {q : Option Nat} : ∀ {os : List Nat} {E : List Ent}, GoodE nx u n E → E[j]? = some (w, q, dp) → (∀ o ∈ os, o ∈ nx w ∧ o < n) → GoodE nx u n (addE w dp E os)
  | [], E, g, _, _ => g
  | o :: os, E, g, hj, h => by
    show GoodE nx u n (addE w dp (add1 w dp E o) os)
    obtain ⟨t, h1, _⟩ := add1_app (E := E) (w := w) (dp := dp) (o := o)
    refine good_addE (j := j) (q := q) (os := os) (good_add1 g hj (h o List.mem_cons_self).1 (h o List.mem_cons_self).2) ?_ fun x hx => h x (List.mem_cons_of_mem _ hx)
    rw [h1]
    exact at_app hj
theorem addE_take {w dp i o : Nat} {os : List Nat} (h : os[i]? = some o) : addE w dp E (os.take (i + 1)) = add1 w dp (addE w dp E (os.take i)) o := by
  have e : os.take (i + 1) = os.take i ++ [o] := by
    rw [List.take_add_one, h]
    rfl
  rw [e]
  unfold addE
  rw [List.foldl_append]
  rfl
theorem stE_next {k w dp : Nat} {q : Option Nat} (h : (stE nx u k)[k]? = some (w, q, dp)) : stE nx u (k + 1) = addE w dp (stE nx u k) (nx w) := by
  show (match (stE nx u k)[k]? with | some (w, _, dp) => addE w dp (stE nx u k) (nx w) | none => stE nx u k) = _
  rw [h]
theorem good_stE (hu : u < n) (hn : ∀ w, w < n → ∀ o ∈ nx w, o < n) : ∀ k, GoodE nx u n (stE nx u k)
  | 0 => good_one hu
  | k + 1 => by
    have g := good_stE hu hn k
    cases e : (stE nx u k)[k]? with
    | none =>
      have e2 : stE nx u (k + 1) = stE nx u k := by
        show (match (stE nx u k)[k]? with | some (w, _, dp) => addE w dp (stE nx u k) (nx w) | none => stE nx u k) = _
        rw [e]
      rw [e2]
      exact g
    | some x =>
      obtain ⟨w, q, dp⟩ := x
      rw [stE_next e]
      exact good_addE g e fun o ho => ⟨ho, hn w (g.lt _ (List.mem_of_getElem? e)) o ho⟩
theorem stE_still {k : Nat} (h : (stE nx u k).length ≤ k) : ∀ j, stE nx u (k + j) = stE nx u k
  | 0 => rfl
  | j + 1 => by
    have ih := stE_still h j
    show (match (stE nx u (k + j))[k + j]? with | some (w, _, dp) => addE w dp (stE nx u (k + j)) (nx w) | none => stE nx u (k + j)) = _
    rw [ih, List.getElem?_eq_none (by omega)]
theorem FinE.uniq {E E' : List Ent} (h : FinE nx u E) (h' : FinE nx u E') : E = E' := by
  obtain ⟨k, rfl, l⟩ := h
  obtain ⟨k', rfl, l'⟩ := h'
  rcases Nat.le_total k k' with q | q
  · have := stE_still l (k' - k)
    rw [show k + (k' - k) = k' by omega] at this
    exact this.symm
  · have := stE_still l' (k - k')
    rw [show k' + (k - k') = k by omega] at this
    exact this
theorem FinE.good {E : List Ent} (h : FinE nx u E) (hu : u < n) (hn : ∀ w, w < n → ∀ o ∈ nx w, o < n) : GoodE nx u n E := by
  obtain ⟨k, rfl, _⟩ := h
  exact good_stE hu hn k
/-- the search's end -/
def bfs (nx : Nat → List Nat) (u n : Nat) : List Ent := stE nx u n
theorem bfs_fin (hu : u < n) (hn : ∀ w, w < n → ∀ o ∈ nx w, o < n) : FinE nx u (bfs nx u n) := ⟨n, rfl, (good_stE hu hn n).len⟩
/-! #### the dicts of a search -/
def kvsG (g : Ent → V) (E : List Ent) : List (Key × V) := E.map fun e => (Sum.inl (e.1 : Int), g e)
theorem kvsG_find {g : Ent → V} : ∀ {E : List Ent} {o : Nat}, valV (kvsG g E) (.inl (o : Int)) = (E.find? fun e => decide (e.1 = o)).map g
  | [], o => rfl
  | e :: E, o => by
    show valV ((Sum.inl (e.1 : Int), g e) :: kvsG g E) _ = _
    by_cases c : e.1 = o
    · rw [valV_pos (by rw [c]), List.find?_cons_of_pos (by simp [c])]
      rfl
    · rw [valV_neg (fun z => c (by have := Sum.inl.inj z; omega)), List.find?_cons_of_neg (by simp [c])]
      exact kvsG_find
theorem kvsG_has {g : Ent → V} {o : Nat} : (valV (kvsG g E) (.inl (o : Int))).isSome = hasE E o := by
  rw [kvsG_find, Option.isSome_map]
  unfold hasE
  rw [Bool.eq_iff_iff, List.find?_isSome, List.any_eq_true]
theorem kvsG_no {g : Ent → V} {o : Nat} (h : hasE E o = false) : valV (kvsG g E) (.inl (o : Int)) = none := by
  have := kvsG_has (g := g) (E := E) (o := o)
  rw [h] at this
  exact Option.isSome_eq_false_iff.mp this |> Option.isNone_iff_eq_none.mp
theorem kvsG_put {g : Ent → V} {o w dp : Nat} {v : V} (h : hasE E o = false) (hv : g (o, some w, dp + 1) = v) : putK (kvsG g E) (.inl (o : Int)) v = kvsG g (add1 w dp E o) := by
  rw [putK_new v (kvsG_no h)]
  unfold add1
  rw [if_neg (by rw [h]; exact Bool.false_ne_true)]
  unfold kvsG
  rw [List.map_append, List.map_cons, hv]
  rfl
theorem kvsG_at {g : Ent → V} {i : Nat} {e : Ent} (nd : (E.map (·.1)).Nodup) (h : E[i]? = some e) : valV (kvsG g E) (.inl (e.1 : Int)) = some (g e) := by
  have z := L2.val_nodup (kvs := kvsG g E) ?_ (Sum.inl (e.1 : Int), g e) (List.mem_map.mpr ⟨e, List.mem_of_getElem? h, rfl⟩)
  · exact z
  · have e2 : (kvsG g E).map (·.1) = (E.map (·.1)).map fun k : Nat => (Sum.inl (k : Int) : Key) := by
      unfold kvsG
      rw [List.map_map, List.map_map]
      rfl
    rw [e2]
    exact List.Pairwise.map _ (fun a b hab z => hab (by have := Sum.inl.inj z; omega)) nd
theorem kvsG_keys {g : Ent → V} : (kvsG g E).map (·.1) = (E.map fun e => (e.1 : Int)).map Sum.inl := by
  unfold kvsG
  rw [List.map_map, List.map_map]
  rfl
end
end FW
set_option Elab.async false
set_option linter.all false
set_option maxRecDepth 100000
set_option maxHeartbeats 4000000
namespace FW
open PySem PySem.Spec PyProof.Rows L2
/-! ### a walk over a dict that is never written again: it is locked for good -/
def iKeysF (td : TE) : TI := fun σ H R => td σ H fun x H1 => ∃ (d : Addr) (kvs : List (Key × V)), x = .ref d ∧ H1 d = some (.dK kvs) ∧ ∀ o, R (Itk d o kvs) (upd H1 d (.frz o (.dK kvs)))
theorem pi_keysF {X : Cx} {tg e : Expr} {td : TE} (he : PE X e td) : PI X tg e (iKeysF td) := by
  refine ⟨fun pins s σ H R I h => ?_⟩
  refine thn (he.run pins s σ H _ I h) fun u s1 ⟨x, H1, I0, rx, d, kvs, ex, hd0, q⟩ => ?_
  subst ex
  obtain rfl : u = Value.ref d := rx
  obtain ⟨o, I1⟩ := I0.lock hd0 (by exact trivial)
  have hd : (upd H1 d (.frz o (.dK kvs))) d = some (.frz o (.dK kvs)) := upd_same
  obtain ⟨hs, hgd, hx, es, ep, vs, hdt, hsz, kv, hm⟩ := I1.frzK hd
  refine iter_keys hs hgd hx hdt (pi_one (tk := s1.toks) I1 _ (turn_keys _ hdt) ⟨_, Heap.get?_push_size _ rfl, rfl, ?_⟩ (q o))
  rw [hsz] <;> rfl
/-- what stands behind the bound of a comprehension over a range -/
def LcRest (te : TE) (σ : L2.St) (vs : List Nat) (j : Nat) (Q : VK) (n : Nat) (H1 : Hp) : Prop := ∀ D, H1 D = none → ∃ W : Nat → Nat → Hp → Prop, (∃ m, W 0 m (upd H1 D (.lst []))) ∧ ∀ i m H, W i m H →
      ((Itr 0 n).stop i H ∧ Q (.ref D) H) ∨ ((Itr 0 n).go i H ∧ ∃ Nx : Hp → Prop, (∀ H', Nx H' → ∃ m', m' < m ∧ W (i + 1) m' H') ∧ ∀ x H', (Itr 0 n).yld i H x H' → gName j x (wipe σ vs) H' fun σ2 H2 => wipe σ2 vs = wipe σ vs ∧ tYes σ2 H2 fun b H3 =>
        if b = true then te σ2 H3 fun y H4 => ∃ acc, H4 D = some (.lst acc) ∧ acc.length < sizeLine ∧ Nx (upd H4 D (.lst (acc ++ [y]))) else Nx H3)
theorem tlcI {ta : TA} {te : TE} {σ : L2.St} {vs : List Nat} {j : Nat} {Q : VK} {H : Hp} (h : ta σ H fun xs H1 => ∃ n : Int, xs = [.int n] ∧ -(2 ^ 62) ≤ n ∧ n < 2 ^ 62 ∧ LcRest te σ vs j Q n.toNat H1) : tLc (iRng1 ta) (gName j) tYes te vs σ H Q := h
theorem asgLc {ta : TA} {te : TE} {σ : L2.St} {vs : List Nat} {i j : Nat} {tz : TS} {D : Ends} {H : Hp} (h : ta σ H fun xs H1 => ∃ n : Int, xs = [.int n] ∧ -(2 ^ 62) ≤ n ∧ n < 2 ^ 62 ∧ LcRest te σ vs j (fun v H2 => tz D (σ.set i (some v)) H2) n.toNat H1) :
    tSeq (tAsg (tLc (iRng1 ta) (gName j) tYes te vs) (gName i)) tz D σ H := h
theorem op_inK {X : Cx} {K : PySem.W.Frag} (h : X.K = K) : OpR X (compareOp .In) (rIn K false) := by
  subst h
  exact op_in_seq
end FW
set_option Elab.async false
set_option linter.all false
set_option maxRecDepth 100000
set_option maxHeartbeats 4000000
namespace FW
open PySem PySem.Spec PyProof.Rows L2
/-! ### defs that show data: no repr is under way around them -/
structure FnG (P : Program) (w : World) (K : PySem.W.Frag) (mg : Str → Option Value) (base : Heap) (k : Nat) (f : Addr) (fd : FuncData) (ps : List Str) (sp : Sp) : Prop where
  len : ∀ vs H Q E, sp vs H Q E → vs.length = ps.length
  run : ∀ (A : Around) (outer : List Env) (s : Shared) (H : Hp) (args : Args) (us : List Value) (vs : List V) (Q : VK) (E : XK), Room k A → A.guards = some [] → Env0 P w K mg base A outer s H → BindsTo s fd args (ps.zip us) → Vals vs us → sp vs H Q E →
    codeAny (model P w) A (.call (.ref f) args) (CR CX0 outer P w H s Q E) s
theorem fnG_of {P : Program} {w : World} {K : PySem.W.Frag} {mg : Str → Option Value} {base : Heap} {k : Nat} {f : Addr} {nm ql : Str} {prm : Arguments} {bd : List Stmt} {sc : Scope} {dV kV doc pm cdv ct oc : Value} {an od : Option Addr}
    {osl : Array (Option Value)} {N ps : List Str} {sp : Sp} (there : K.lookup f = some ⟨oc, od, .func (PySem.W.fnOf nm ql prm bd sc dV kV doc pm an cdv ct), osl⟩) (code : PySem.W.codeIn K cdv ql = true) (S : FnScope N ps sc) (len : ∀ vs H Q E, sp vs H Q E → vs.length = ps.length)
    (body : ∀ (A : Around) (outer : List Env) (s : Shared) (H : Hp) (vs : List V) (Q : VK) (E : XK), Room k (A.deeper (envOfC ql sc s.heap.objs.size f cdv)) → A.guards = some [] → sp vs H Q E →
      ∃ t, PSs (cxOf CX0 P w K mg base N ql sc f cdv A outer s H E) bd t ∧ t { nx := fun _ H' => Q .non H', rt := Q } (start N vs) H) :
    FnG P w K mg base (k + 1) f (PySem.W.fnOf nm ql prm bd sc dV kV doc pm an cdv ct) ps sp := by
  refine ⟨len, fun A outer s H args us vs Q E room guard env bnd rv want => ?_⟩
  have lens := len _ _ _ _ want
  have inK : K.In s.heap := env.mod.kin.keeps fun b o e => (env.bs b o e).1
  have free : s.heap.NoLimit := env.mod.nolimit.keeps fun b o e => (env.bs b o e).1
  have kinds : ∀ y ∈ ps.zip us, sc.names.lookup y.1 = some .local ∨ (sc.names.lookup y.1 = some .cell ∧ ((cellsFrom (s.heap.objs.size + 1) sc.names []).lookup y.1).isSome = true) := by
    rintro ⟨n, v⟩ hy
    rcases S.par n (List.of_mem_zip hy).1 with q | q
    · exact Or.inl q
    · exact Or.inr ⟨q, PySem.W.cellsFrom_some _ _ _ (Or.inl q)⟩
  refine codeAny_call_function room.depth (inK _ _ there) rfl S.co S.gen rfl (PySem.W.codeRec_of inK code) (bnd _ _ _ _ ?_)
  refine wpAny_newFunctionEnv_cells S.kind kinds fun ev isEv s1 x => ?_
  subst isEv
  refine ⟨free.keeps x.toInCall.keep, codeAny_func ?_⟩
  obtain ⟨t, ht, hq⟩ := body A outer s H vs Q E (room.deeper _) guard want
  have J0 : Inv (cxOf CX0 P w K mg base N ql sc f cdv A outer s H E) [] (start N vs) H s1 := inv_start S room.hd env lens rv x
  refine wpAny_mono (ht.run [] s1 (start N vs) H _ J0 hq) (fun fl s' hs => ?_) fun e s' hs => hs
  have out : ∀ {σ' : L2.St} {H' : Hp} {v : V} {u : Value}, Inv (cxOf CX0 P w K mg base N ql sc f cdv A outer s H E) [] σ' H' s' → RelV v u → Q v H' → CE outer P w H s Q u s' :=
    fun {σ' H' v u} J r q => ⟨v, H', J.os, J.bare, J.base, J.hok, r, q⟩
  cases fl with
  | ret u =>
    obtain ⟨v, σ', H', J, r, q⟩ := hs
    exact out J r q
  | next =>
    obtain ⟨σ', H', J, q⟩ := hs
    exact out (v := V.non) (u := Value.none) J rfl q
  | brk =>
    obtain ⟨_, _, _, z⟩ := hs
    exact z.elim
  | cont =>
    obtain ⟨_, _, _, z⟩ := hs
    exact z.elim
def OkG (P : Program) (w : World) (K : PySem.W.Frag) (mg : Str → Option Value) (base : Heap) (k : Nat) (x : Str) (ps : List Str) (sp : Sp) : Prop :=
  ∃ f fd, FnG P w K mg base k f fd ps sp ∧ mg x = some (.ref f) ∧ PySem.W.keepIn K (.ref f) = true ∧ Binds K fd ps [] ∧ ∃ oc od sl, K.lookup f = some ⟨oc, od, .func fd, sl⟩
section
variable {P : Program} {w : World} {K : PySem.W.Frag} {mg : Str → Option Value} {base : Heap}
theorem Df.okG {x : Str} {st : Stmt} {N ps : List Str} {k : Nat} {sp : Sp} (D : Df K mg x st) (S : FnScope N ps (defScope st)) (hb : BindT x st ps) (len : ∀ vs H Q E, sp vs H Q E → vs.length = ps.length)
    (hbody : ∀ (cdv : Value) (A : Around) (outer : List Env) (s : Shared) (H : Hp) (f : Addr) (vs : List V) (Q : VK) (E : XK), Room k (A.deeper (envOfC x (defScope st) s.heap.objs.size f cdv)) → A.guards = some [] → sp vs H Q E →
      ∃ t, PSs (cxOf CX0 P w K mg base N x (defScope st) f cdv A outer s H E).nox (defBody st) t ∧ t { nx := fun _ H' => Q .non H', rt := Q } (start N vs) H) : OkG P w K mg base (k + 1) x ps sp := by
  obtain ⟨f, fd, F, hm⟩ := D
  obtain ⟨oc, od, kV, doc, pm, an, cdv, ct, osl, rfl, lk, hcd⟩ := id F.ex
  refine ⟨f, _, fnG_of lk hcd S len fun A outer s H vs Q E hr hg hsp => ?_, hm, F.kp, F.binds hb, oc, od, osl, lk⟩
  obtain ⟨t, h, q⟩ := hbody cdv A outer s H f vs Q E hr hg hsp
  exact ⟨t, h.nox, q⟩
end
section
variable {X : Cx} {x : Str} {k : Nat} {ps : List Str} {sp : Sp} {e : Expr} {es : List Expr} {t : TA} {p pos : Pos}
theorem pe_callG (o : OkG X.prog X.w X.K X.mg X.base k x ps sp) (hr : Room k X.A) (hG : X.A.guards = some []) (ha : PA X (e :: es) t) (hg : Gl X x := by rfl)
    (hdb : (x == ("__debug__" : Str)) = false := by decide) (he : starEach (e :: es) X.env = (false, eval e X.env) :: starEach es X.env := by rfl) (hpl : (backTo pos (starEach es X.env)).any (·.1) = false := by rfl) :
    PE X (.Call (.Name x p) (e :: es) [] pos) (tCall sp [] E0 t) := by
  obtain ⟨f, fd, F, hm, hk, hb, _⟩ := o
  refine ⟨fun pins s σ H Q I h0 => ?_⟩
  refine wpAny_Call_Name_kw (ld_glob I hg hm ?_ hdb)
  refine PySem.W.callWith_K (h₀ := X.base) I.ok.mod.kin hk (thn (ha.run pos pins s σ H _ I h0) fun us s1 ⟨vs, H1, I1, rv, q0⟩ => ⟨I1.kIn, ?_⟩) he hpl
  have q : sp vs H1 Q E0 := by
    have z : sp (vs ++ []) H1 Q E0 := q0
    rw [List.append_nil] at z
    exact z
  have hl : us.length = ps.length := by rw [← rv.length]; exact F.len _ _ _ _ q
  have hb' := hb s1 us I1.kIn (by rw [List.append_nil]; exact hl)
  rw [List.append_nil] at hb'
  refine wpAny_call (codeAny_mono (F.run X.A X.stack s1 H1 ⟨us, []⟩ us vs Q E0 hr hG I1.env0 hb' rv q) fun r s' hq => ?_)
  cases r with
  | error e => exact hq.elim
  | ok fl =>
    cases fl with
    | ret u => exact I1.after hq
    | next => exact False.elim hq
    | brk => exact False.elim hq
    | cont => exact False.elim hq
/-- repr(x), x data without dicts -/
def rRepr (K : PySem.W.Frag) : List V → Hp → VK → Prop := fun xs H Q => ∃ (a : Addr) (d : PyData), xs = [.ref a] ∧ Dp K H (.ref a) d ∧ d.showable = true ∧ d.hasDict = false ∧ d.depth ≤ 60 ∧ d.shown.length ≤ sizeLine ∧ Q (.str d.shown) H
theorem call_repr (hG : X.A.guards = some []) (hu : X.A.units + 64 < cLine) : CallR X (.builtin "repr") (rRepr X.K) := by
  intro pins s σ H xs us Q I r h
  obtain ⟨a, d, rfl, hd, hs, hn, hdp, hz, q⟩ := h
  cases r with
  | cons r1 r' =>
    cases r'
    obtain ⟨as, rd⟩ := Dp.reads I d _ _ hd r1
    cases r1
    exact repr_of_reads' rd hs (PyData.noDict_hsm hn) hG (by omega) (fun _ _ e => e) (fun h' u tk hk => ⟨.str d.shown, H, I.kept hk, ⟨_, rfl⟩, q⟩) hz
end
/-! ### the end, for a law that shows data -/
theorem law_callG {P : Program} {w : World} {K : PySem.W.Frag} {mg mb : Str → Option Value} {k : Nat} {fa a : Addr} {fd : FuncData} {x : Str} {sp : Sp} {s₁ : Shared} {vs : List Value} {ns : List Int}
    (inK : K.In s₁.heap) (top : s₁.heap.Ns mainGlobals mg) (bn : s₁.heap.Ns builtinsNs mb) (bb : ∀ x : Str, x ≠ "__name__" → mb x = bootBuiltins x) (nl : s₁.heap.NoLimit) (gens : s₁.gens = #[])
    (scr : s₁.heap.get? a = some { cls := .type "list", data := .seq vs.toArray }) (theInts : IntsAre vs ns) (few : ns.length ≤ sizeLine) (hr : Room k callerA)
    (F : ∀ base : Heap, K.In base → base.Ns mainGlobals mg → FnG P w K mg base k fa fd [x] sp) (bind1 : ∀ (s : Shared) (u : Value), BindsTo s fd ⟨[u], []⟩ [(x, u)])
    (want : ∀ H : Hp, Only H → SqL K H a (ns.map V.int) → sp [.ref a] H (fun v _ => v = .bl true) fun _ _ _ => False) :
    codeAny (model P w) callerA (.call (.ref fa) ⟨[.ref a], []⟩) (fun r s' => r = .ok (.ret (.bool true)) ∧ OldK s₁.heap s'.heap ∧ s'.os = s₁.os ∧ AllBare s'.gens) s₁ := by
  have rel := vals_ints theInts
  have many := theInts.length
  have main : ∀ H : Hp, Only H → SqL K H a (ns.map V.int) → HOk P w H s₁.heap → (∀ b, H b ≠ none → b = a) → (H a ≠ none → K.lookup a = none) →
      codeAny (model P w) callerA (.call (.ref fa) ⟨[.ref a], []⟩) (fun r s' => r = .ok (.ret (.bool true)) ∧ OldK s₁.heap s'.heap ∧ s'.os = s₁.os ∧ AllBare s'.gens) s₁ := by
    intro H only seq ok lone apart
    have hid : ∀ {b : Addr} {o : Obj}, s₁.heap.get? b = some o → H b = none → (hidT s₁.heap H).get? b = some o := fun e n => hidT_get e n
    have nodict : ∀ {b : Addr} {o : Obj} {es : Array DictEntry} {ep : Nat}, s₁.heap.get? b = some o → o.data = .dict es ep → H b = none := by
      intro b o es ep e d
      cases q : H b with
      | none => rfl
      | some u =>
        have eb : b = a := lone b (by rw [q]; exact fun z => nomatch z)
        subst eb
        rw [scr] at e
        cases e
        have d' : Data.seq vs.toArray _ = Data.dict es ep := d
        cases d'
    have nsH : ∀ {b : Addr} {m : Str → Option Value}, s₁.heap.Ns b m → (hidT s₁.heap H).Ns b m := by
      rintro b m ⟨o, es, ep, e, d, r⟩
      exact ⟨o, es, ep, hid e (nodict e d), d, r⟩
    have inB : K.In (hidT s₁.heap H) := fun b o e => hid (inK b o e) (by
      cases q : H b with
      | none => rfl
      | some u =>
        have eb : b = a := lone b (by rw [q]; exact fun z => nomatch z)
        subst eb
        rw [apart (by rw [q]; exact fun z => nomatch z)] at e
        cases e)
    have modB : Mod K mg (hidT s₁.heap H) := by
      obtain ⟨mc, h1, h2⟩ := nl
      exact ⟨inB, nsH top, ⟨mb, nsH bn, bb⟩, ⟨mc, nsH h1, h2⟩⟩
    have e0 : Env0 P w K mg (hidT s₁.heap H) callerA [] s₁ H := ⟨rfl, modB, fun b o e => of_hidT e, Nat.le_of_eq (hidT_size _ _), trivial, fun b hb => absurd (show b ∈ ([] : List Addr) from hb) (by simp), ok, .of_eq gens⟩
    refine codeAny_mono ((F _ inB (nsH top)).run callerA [] s₁ H ⟨[.ref a], []⟩ [.ref a] [.ref a] _ _ hr rfl e0 (bind1 s₁ (.ref a)) (.cons rfl .nil) (want H only seq)) fun r s' h => ?_
    cases r with
    | error e => exact False.elim h
    | ok fl =>
      cases fl with
      | next => exact False.elim h
      | brk => exact False.elim h
      | cont => exact False.elim h
      | ret u =>
        obtain ⟨v, H', os', bare', un, ok', rv', qv⟩ := h
        obtain rfl : v = .bl true := qv
        obtain rfl : u = Value.bool true := rv'
        refine ⟨rfl, OldK.of_keep fun b o e => ?_, os', bare'⟩
        cases q : H b with
        | none => exact un.keep b o e q (fun z => absurd (show b ∈ ([] : List Addr) from z) (by simp)) (by simp)
        | some u =>
          rcases only b with z | ⟨ob, xs, z⟩
          · rw [q] at z
            cases z
          · obtain ⟨f1, _⟩ := ok b _ z
            obtain ⟨f2, _⟩ := ok' b _ (un.frzs b ob _ z)
            rw [e] at f1
            cases f1
            exact f2
  cases hk : K.lookup a with
  | some o =>
    have e := inK a o hk
    rw [scr] at e
    cases e
    exact main (fun _ => none) (fun _ => .inl rfl) (.inr ⟨_, vs.toArray, _, hk, rfl, rfl, rfl, by rw [List.size_toArray, many]; exact few, by simpa using rel⟩) (fun b u z => nomatch (show (none : Option HO) = some u from z)) (fun b z => absurd rfl z) fun z => absurd rfl z
  | none =>
    refine main (fun b => if b = a then some (.frz { cls := .type "list", data := .seq vs.toArray } (.lst (ns.map V.int))) else none) (fun b => ?_) (.inl (.inr ⟨{ cls := .type "list", data := .seq vs.toArray }, if_pos rfl⟩)) (fun b u z => ?_) (fun b z => ?_) fun _ => hk
    · by_cases eb : b = a
      · exact .inr ⟨_, _, if_pos eb⟩
      · exact .inl (if_neg eb)
    · by_cases eb : b = a
      · have z' := (if_pos eb).symm.trans z
        cases z'
        subst eb
        exact ⟨scr, by rw [List.length_map]; exact few, vs, _, rel, scr⟩
      · have z' := (if_neg eb).symm.trans z
        cases z'
    · by_cases eb : b = a
      · exact eb
      · exact absurd (if_neg eb) z
theorem walk_ofG {l : PySem.W.OpenLaw} {n k : Nat} {q : Program} {loose : List Str} {XP : (Str → Option Value) → Heap → Prop} {YP : World → Heap → Prop} {d : DefRec} {K : Params → PySem.W.Frag} {sp : World → Sp} {x : Str}
    (hn : l.most = some n) (hn2 : n ≤ sizeLine) (hdf : d.params.defaults = []) (hr : Room k callerA) (hY : ∀ (w : World) (h : Heap), YP w h → (K w.params).In h)
    (F : ∀ (w : World) (mg : Str → Option Value) (fa : Addr) (h : Heap), (K w.params).In h → h.Ns mainGlobals mg → mg d.name = some (.ref fa) →
      ∃ fd : FuncData, (∀ (s : Shared) (u : Value), BindsTo s fd ⟨[u], []⟩ [(x, u)]) ∧ ∀ base : Heap, (K w.params).In base → base.Ns mainGlobals mg → FnG l.prog w (K w.params) mg base k fa fd [x] (sp w))
    (want : ∀ (w : World) (H : Hp) (a : Addr) (ns : List Int), ns.length ≤ n → Only H → SqL (K w.params) H a (ns.map V.int) → sp w [.ref a] H (fun v _ => v = .bl true) fun _ _ _ => False) :
    PySem.W.WalkO q loose XP YP l.row.toRowW d [] (fun f vs => PySem.call f vs) := by
  refine Att.attach_call hn hdf fun w s₀ s₁ mg mb fa o pm cd doc a vs ns G Y ho hd hcd hmg hobj hints hlen hg => ?_
  have inK := hY w _ Y
  obtain ⟨fd, hb, hF⟩ := F w mg fa _ inK G.T.g hmg
  exact law_callG inK G.T.g G.T.b G.T.builtins G.T.nolimit hg hobj hints (Nat.le_trans hlen hn2) hr hF hb (fun H only seq => want w H a ns hlen only seq)
theorem end_lawG {P : Program} {w : World} {K : PySem.W.Frag} {mg : Str → Option Value} {fa : Addr} {st : Stmt} {k : Nat} {sp : Sp} (D : Df K mg "law" st) (hb : BindT "law" st ["script"]) (hfa : mg "law" = some (.ref fa))
    (ok : ∀ base : Heap, K.In base → base.Ns mainGlobals mg → OkG P w K mg base k "law" ["script"] sp) :
    ∃ fd : FuncData, (∀ (s : Shared) (v : Value), BindsTo s fd ⟨[v], []⟩ [("script", v)]) ∧ ∀ base : Heap, K.In base → base.Ns mainGlobals mg → FnG P w K mg base k fa fd ["script"] sp := by
  obtain ⟨f, fd, F, hm⟩ := D
  obtain ⟨oc, od, kV, doc, pm, an, cdv, ct, osl, e, lk, _⟩ := F.ex
  have ef : f = fa := Value.ref.inj (Option.some.inj (hm.symm.trans hfa))
  subst ef
  refine ⟨fd, fun s v => ?_, fun base h1 h2 => ?_⟩
  · subst e
    exact .of_eq (hb kV doc pm an cdv ct [v] rfl)
  · obtain ⟨f', fd', X, hm', _, _, oc', od', sl', lk'⟩ := ok base h1 h2
    have ef : f' = f := Value.ref.inj (Option.some.inj (hm'.symm.trans hm))
    subst ef
    rw [lk] at lk'
    have e2 : fd' = fd := by
      have z := congrArg Obj.data (Option.some.inj lk')
      injection z with z
      exact z.symm
    subst e2
    exact X
end FW
set_option Elab.async false
set_option linter.all false
set_option maxRecDepth 100000
set_option maxHeartbeats 4000000
namespace FW
open PySem PySem.Spec PyProof.Rows L2
open Evl (pss_cut tCut)
def topS (i : Nat) : Stmt := PySem.Challenge.pw_firstwake_k21_what_units_reach.main.body.getD i (.Pass ⟨0, 0, 0, 0⟩)
abbrev s_is_integer : Stmt := topS 6
abbrev N_is_integer : List Str := ["thing"]
theorem sc_is_integer : FnScope N_is_integer ["thing"] (defScope s_is_integer) := ⟨rfl, rfl, rfl, by decide +kernel, rfl, by decide +kernel, by decide +kernel⟩
theorem bi_is_integer : BindT "is_integer" s_is_integer ["thing"] := fun _ _ _ _ _ _ us hl => match us, hl with | [_], _ => rfl

abbrev s_is_within : Stmt := topS 7
abbrev N_is_within : List Str := ["thing", "low", "high"]
theorem sc_is_within : FnScope N_is_within ["thing", "low", "high"] (defScope s_is_within) := ⟨rfl, rfl, rfl, by decide +kernel, rfl, by decide +kernel, by decide +kernel⟩
theorem bi_is_within : BindT "is_within" s_is_within ["thing", "low", "high"] := fun _ _ _ _ _ _ us hl => match us, hl with | [_, _, _], _ => rfl

abbrev s_is_index : Stmt := topS 8
abbrev N_is_index : List Str := ["thing", "many"]
theorem sc_is_index : FnScope N_is_index ["thing", "many"] (defScope s_is_index) := ⟨rfl, rfl, rfl, by decide +kernel, rfl, by decide +kernel, by decide +kernel⟩
theorem bi_is_index : BindT "is_index" s_is_index ["thing", "many"] := fun _ _ _ _ _ _ us hl => match us, hl with | [_, _], _ => rfl

abbrev s_is_tuple : Stmt := topS 9
abbrev N_is_tuple : List Str := ["thing", "size"]
theorem sc_is_tuple : FnScope N_is_tuple ["thing", "size"] (defScope s_is_tuple) := ⟨rfl, rfl, rfl, by decide +kernel, rfl, by decide +kernel, by decide +kernel⟩
theorem bi_is_tuple : BindT "is_tuple" s_is_tuple ["thing", "size"] := fun _ _ _ _ _ _ us hl => match us, hl with | [_, _], _ => rfl

abbrev s__kinds : Stmt := topS 30
abbrev N__kinds : List Str := ["word", "in_function"]
theorem sc__kinds : FnScope N__kinds ["word", "in_function"] (defScope s__kinds) := ⟨rfl, rfl, rfl, by decide +kernel, rfl, by decide +kernel, by decide +kernel⟩
theorem bi__kinds : BindT "_kinds" s__kinds ["word", "in_function"] := fun _ _ _ _ _ _ us hl => match us, hl with | [_, _], _ => rfl

abbrev s__shared_limits : Stmt := topS 28
abbrev N__shared_limits : List Str := ["fields"]
theorem sc__shared_limits : FnScope N__shared_limits ["fields"] (defScope s__shared_limits) := ⟨rfl, rfl, rfl, by decide +kernel, rfl, by decide +kernel, by decide +kernel⟩
theorem bi__shared_limits : BindT "_shared_limits" s__shared_limits ["fields"] := fun _ _ _ _ _ _ us hl => match us, hl with | [_], _ => rfl

abbrev s__is_instruction : Stmt := topS 29
abbrev N__is_instruction : List Str := ["thing", "in_function", "limits", "fields", "kinds", "at", "kind", "low", "high"]
theorem sc__is_instruction : FnScope N__is_instruction ["thing", "in_function", "limits", "fields"] (defScope s__is_instruction) := ⟨rfl, rfl, rfl, by decide +kernel, rfl, by decide +kernel, by decide +kernel⟩
theorem bi__is_instruction : BindT "_is_instruction" s__is_instruction ["thing", "in_function", "limits", "fields"] := fun _ _ _ _ _ _ us hl => match us, hl with | [_, _, _, _], _ => rfl

abbrev s__is_initializer : Stmt := topS 26
abbrev N__is_initializer : List Str := ["thing", "fields", "limits", "member"]
theorem sc__is_initializer : FnScope N__is_initializer ["thing", "fields"] (defScope s__is_initializer) := ⟨rfl, rfl, rfl, by decide +kernel, rfl, by decide +kernel, by decide +kernel⟩
theorem bi__is_initializer : BindT "_is_initializer" s__is_initializer ["thing", "fields"] := fun _ _ _ _ _ _ us hl => match us, hl with | [_, _], _ => rfl

abbrev s__is_code : Stmt := topS 27
abbrev N__is_code : List Str := ["thing", "own", "functions", "fields", "limits", "place", "member"]
theorem sc__is_code : FnScope N__is_code ["thing", "own", "functions", "fields"] (defScope s__is_code) := ⟨rfl, rfl, rfl, by decide +kernel, rfl, by decide +kernel, by decide +kernel⟩
theorem bi__is_code : BindT "_is_code" s__is_code ["thing", "own", "functions", "fields"] := fun _ _ _ _ _ _ us hl => match us, hl with | [_, _, _, _], _ => rfl

abbrev s__is_unit : Stmt := topS 24
abbrev N__is_unit : List Str := ["thing", "number", "parent", "fields", "_"]
theorem sc__is_unit : FnScope N__is_unit ["thing", "number"] (defScope s__is_unit) := ⟨rfl, rfl, rfl, by decide +kernel, rfl, by decide +kernel, by decide +kernel⟩
theorem bi__is_unit : BindT "_is_unit" s__is_unit ["thing", "number"] := fun _ _ _ _ _ _ us hl => match us, hl with | [_, _], _ => rfl

abbrev s__are_units : Stmt := topS 23
abbrev N__are_units : List Str := ["thing", "number", "member"]
theorem sc__are_units : FnScope N__are_units ["thing"] (defScope s__are_units) := ⟨rfl, rfl, rfl, by decide +kernel, rfl, by decide +kernel, by decide +kernel⟩
theorem bi__are_units : BindT "_are_units" s__are_units ["thing"] := fun _ _ _ _ _ _ us hl => match us, hl with | [_], _ => rfl

abbrev s__are_functions : Stmt := topS 25
abbrev N__are_functions : List Str := ["thing", "units", "member"]
theorem sc__are_functions : FnScope N__are_functions ["thing", "units"] (defScope s__are_functions) := ⟨rfl, rfl, rfl, by decide +kernel, rfl, by decide +kernel, by decide +kernel⟩
theorem bi__are_functions : BindT "_are_functions" s__are_functions ["thing", "units"] := fun _ _ _ _ _ _ us hl => match us, hl with | [_, _], _ => rfl

abbrev s_is_program : Stmt := topS 19
abbrev N_is_program : List Str := ["thing", "units", "functions", "fields", "unit", "initializers", "codes", "own", "function"]
theorem sc_is_program : FnScope N_is_program ["thing"] (defScope s_is_program) := ⟨rfl, rfl, rfl, by decide +kernel, rfl, by decide +kernel, by decide +kernel⟩
theorem bi_is_program : BindT "is_program" s_is_program ["thing"] := fun _ _ _ _ _ _ us hl => match us, hl with | [_], _ => rfl

abbrev s__law_open : Stmt := topS 40
abbrev N__law_open : List Str := ["script", "cells", "k", "cell"]
theorem sc__law_open : FnScope N__law_open ["script"] (defScope s__law_open) := ⟨rfl, rfl, rfl, by decide +kernel, rfl, by decide +kernel, by decide +kernel⟩
theorem bi__law_open : BindT "_law_open" s__law_open ["script"] := fun _ _ _ _ _ _ us hl => match us, hl with | [_], _ => rfl

abbrev s__law_spread : Stmt := topS 39
abbrev N__law_spread : List Str := ["cell", "at", "primes", "one", "two", "three"]
theorem sc__law_spread : FnScope N__law_spread ["cell", "at"] (defScope s__law_spread) := ⟨rfl, rfl, rfl, by decide +kernel, rfl, by decide +kernel, by decide +kernel⟩
theorem bi__law_spread : BindT "_law_spread" s__law_spread ["cell", "at"] := fun _ _ _ _ _ _ us hl => match us, hl with | [_, _], _ => rfl

abbrev s__law_take : Stmt := topS 41
abbrev N__law_take : List Str := ["pen", "many", "at", "cell", "found"]
theorem sc__law_take : FnScope N__law_take ["pen", "many"] (defScope s__law_take) := ⟨rfl, rfl, rfl, by decide +kernel, rfl, by decide +kernel, by decide +kernel⟩
theorem bi__law_take : BindT "_law_take" s__law_take ["pen", "many"] := fun _ _ _ _ _ _ us hl => match us, hl with | [_, _], _ => rfl

abbrev s__law_w_pick : Stmt := topS 42
abbrev N__law_w_pick : List Str := ["pen", "some"]
theorem sc__law_w_pick : FnScope N__law_w_pick ["pen", "some"] (defScope s__law_w_pick) := ⟨rfl, rfl, rfl, by decide +kernel, rfl, by decide +kernel, by decide +kernel⟩
theorem bi__law_w_pick : BindT "_law_w_pick" s__law_w_pick ["pen", "some"] := fun _ _ _ _ _ _ us hl => match us, hl with | [_, _], _ => rfl

abbrev s__law_w_straight : Stmt := topS 43
abbrev N__law_w_straight : List Str := ["pen", "fields", "often", "s", "t", "way", "some", "unit", "field"]
theorem sc__law_w_straight : FnScope N__law_w_straight ["pen", "fields", "often"] (defScope s__law_w_straight) := ⟨rfl, rfl, rfl, by decide +kernel, rfl, by decide +kernel, by decide +kernel⟩
theorem bi__law_w_straight : BindT "_law_w_straight" s__law_w_straight ["pen", "fields", "often"] := fun _ _ _ _ _ _ us hl => match us, hl with | [_, _, _], _ => rfl

abbrev s__law_w_line : Stmt := topS 44
abbrev N__law_w_line : List Str := ["pen", "fields", "where", "heads", "number", "place", "many", "way"]
theorem sc__law_w_line : FnScope N__law_w_line ["pen", "fields", "where", "heads"] (defScope s__law_w_line) := ⟨rfl, rfl, rfl, by decide +kernel, rfl, by decide +kernel, by decide +kernel⟩
theorem bi__law_w_line : BindT "_law_w_line" s__law_w_line ["pen", "fields", "where", "heads"] := fun _ _ _ _ _ _ us hl => match us, hl with | [_, _, _, _], _ => rfl

abbrev s__law_w_program : Stmt := topS 45
abbrev N__law_w_program : List Str := ["pen", "most", "longest_body", "counts", "turn", "fields", "unit", "many", "field", "units", "parent", "body", "functions", "number", "found", "head", "heads", "place"]
theorem sc__law_w_program : FnScope N__law_w_program ["pen", "most", "longest_body"] (defScope s__law_w_program) := ⟨rfl, rfl, rfl, by decide +kernel, rfl, by decide +kernel, by decide +kernel⟩
theorem bi__law_w_program : BindT "_law_w_program" s__law_w_program ["pen", "most", "longest_body"] := fun _ _ _ _ _ _ us hl => match us, hl with | [_, _, _], _ => rfl

abbrev s_need_program : Stmt := topS 20
abbrev N_need_program : List Str := ["program"]
theorem sc_need_program : FnScope N_need_program ["program"] (defScope s_need_program) := ⟨rfl, rfl, rfl, by decide +kernel, rfl, by decide +kernel, by decide +kernel⟩
theorem bi_need_program : BindT "need_program" s_need_program ["program"] := fun _ _ _ _ _ _ us hl => match us, hl with | [_], _ => rfl

abbrev s_need_unit : Stmt := topS 21
abbrev N_need_unit : List Str := ["program", "unit"]
theorem sc_need_unit : FnScope N_need_unit ["program", "unit"] (defScope s_need_unit) := ⟨rfl, rfl, rfl, by decide +kernel, rfl, by decide +kernel, by decide +kernel⟩
theorem bi_need_unit : BindT "need_unit" s_need_unit ["program", "unit"] := fun _ _ _ _ _ _ us hl => match us, hl with | [_, _], _ => rfl

abbrev s_accessed_unit : Stmt := topS 22
abbrev N_accessed_unit : List Str := ["program", "instruction", "word"]
theorem sc_accessed_unit : FnScope N_accessed_unit ["program", "instruction"] (defScope s_accessed_unit) := ⟨rfl, rfl, rfl, by decide +kernel, rfl, by decide +kernel, by decide +kernel⟩
theorem bi_accessed_unit : BindT "accessed_unit" s_accessed_unit ["program", "instruction"] := fun _ _ _ _ _ _ us hl => match us, hl with | [_, _], _ => rfl

abbrev s__accessed_in_waking : Stmt := topS 37
abbrev N__accessed_in_waking : List Str := ["program", "unit", "parent", "_", "initializer", "units", "instruction", "other"]
theorem sc__accessed_in_waking : FnScope N__accessed_in_waking ["program", "unit"] (defScope s__accessed_in_waking) := ⟨rfl, rfl, rfl, by decide +kernel, rfl, by decide +kernel, by decide +kernel⟩
theorem bi__accessed_in_waking : BindT "_accessed_in_waking" s__accessed_in_waking ["program", "unit"] := fun _ _ _ _ _ _ us hl => match us, hl with | [_, _], _ => rfl

abbrev s__befores : Stmt := topS 36
abbrev N__befores : List Str := ["program", "unit", "befores", "found", "at", "other"]
theorem sc__befores : FnScope N__befores ["program", "unit"] (defScope s__befores) := ⟨rfl, rfl, rfl, by decide +kernel, rfl, by decide +kernel, by decide +kernel⟩
theorem bi__befores : BindT "_befores" s__befores ["program", "unit"] := fun _ _ _ _ _ _ us hl => match us, hl with | [_, _], _ => rfl

abbrev s__is_in_loop : Stmt := topS 35
abbrev N__is_in_loop : List Str := ["unit", "reached", "other"]
theorem sc__is_in_loop : FnScope N__is_in_loop ["unit", "reached"] (defScope s__is_in_loop) := ⟨rfl, rfl, rfl, by decide +kernel, rfl, by decide +kernel, by decide +kernel⟩
theorem bi__is_in_loop : BindT "_is_in_loop" s__is_in_loop ["unit", "reached"] := fun _ _ _ _ _ _ us hl => match us, hl with | [_, _], _ => rfl

abbrev s_reach : Stmt := topS 32
abbrev N_reach : List Str := ["program", "unit"]
theorem sc_reach : FnScope N_reach ["program", "unit"] (defScope s_reach) := ⟨rfl, rfl, rfl, by decide +kernel, rfl, by decide +kernel, by decide +kernel⟩
theorem bi_reach : BindT "reach" s_reach ["program", "unit"] := fun _ _ _ _ _ _ us hl => match us, hl with | [_, _], _ => rfl

abbrev s_chain : Stmt := topS 33
abbrev N_chain : List Str := ["program", "unit", "other", "befores", "backwards"]
theorem sc_chain : FnScope N_chain ["program", "unit", "other"] (defScope s_chain) := ⟨rfl, rfl, rfl, by decide +kernel, rfl, by decide +kernel, by decide +kernel⟩
theorem bi_chain : BindT "chain" s_chain ["program", "unit", "other"] := fun _ _ _ _ _ _ us hl => match us, hl with | [_, _, _], _ => rfl

abbrev s_loops : Stmt := topS 34
abbrev N_loops : List Str := ["program", "reached", "unit"]
theorem sc_loops : FnScope N_loops ["program"] (defScope s_loops) := ⟨rfl, rfl, rfl, by decide +kernel, rfl, by decide +kernel, by decide +kernel⟩
theorem bi_loops : BindT "loops" s_loops ["program"] := fun _ _ _ _ _ _ us hl => match us, hl with | [_], _ => rfl

abbrev s__law_w_next : Stmt := topS 46
abbrev N__law_w_next : List Str := ["program", "unit", "parent", "many", "body", "found", "one"]
theorem sc__law_w_next : FnScope N__law_w_next ["program", "unit"] (defScope s__law_w_next) := ⟨rfl, rfl, rfl, by decide +kernel, rfl, by decide +kernel, by decide +kernel⟩
theorem bi__law_w_next : BindT "_law_w_next" s__law_w_next ["program", "unit"] := fun _ _ _ _ _ _ us hl => match us, hl with | [_, _], _ => rfl

abbrev s__law_w_steps : Stmt := topS 47
abbrev N__law_w_steps : List Str := ["program", "unit", "found", "row", "many", "later", "one", "other"]
theorem sc__law_w_steps : FnScope N__law_w_steps ["program", "unit"] (defScope s__law_w_steps) := ⟨rfl, rfl, rfl, by decide +kernel, rfl, by decide +kernel, by decide +kernel⟩
theorem bi__law_w_steps : BindT "_law_w_steps" s__law_w_steps ["program", "unit"] := fun _ _ _ _ _ _ us hl => match us, hl with | [_, _], _ => rfl

abbrev s__law_w_chain_right : Stmt := topS 48
abbrev N__law_w_chain_right : List Str := ["program", "first", "other", "found", "due", "good", "k"]
theorem sc__law_w_chain_right : FnScope N__law_w_chain_right ["program", "first", "other"] (defScope s__law_w_chain_right) := ⟨rfl, rfl, rfl, by decide +kernel, rfl, by decide +kernel, by decide +kernel⟩
theorem bi__law_w_chain_right : BindT "_law_w_chain_right" s__law_w_chain_right ["program", "first", "other"] := fun _ _ _ _ _ _ us hl => match us, hl with | [_, _, _], _ => rfl

abbrev s_law : Stmt := topS 49
abbrev N_law : List Str := ["script", "pen", "turn", "program", "seen", "units", "unit", "other", "due", "others"]
theorem sc_law : FnScope N_law ["script"] (defScope s_law) := ⟨rfl, rfl, rfl, by decide +kernel, rfl, by decide +kernel, by decide +kernel⟩
theorem bi_law : BindT "law" s_law ["script"] := fun _ _ _ _ _ _ us hl => match us, hl with | [_], _ => rfl

theorem hu64 {k : Nat} {A : Around} (r : Room k A) : A.units + 64 < cLine := by
  have z := r.un
  omega
end FW
set_option Elab.async false
set_option linter.all false
set_option maxRecDepth 100000
set_option maxHeartbeats 4000000
namespace FW
open PySem PySem.Spec PyProof.Rows L2
open Evl (pss_cut tCut)
/-! ### the pen: _law_open, _law_spread, _law_take -/
structure TPen (K : PySem.W.Frag) (mg : Str → Option Value) : Prop where
  b_list : mg "list" = none
  b_enumerate : mg "enumerate" = none
  b_len : mg "len" = none
  d_open : Df K mg "_law_open" s__law_open
  d_spread : Df K mg "_law_spread" s__law_spread
  d_take : Df K mg "_law_take" s__law_take
section
variable {P : Program} {w : World} {K : PySem.W.Frag} {mg : Str → Option Value} {base : Heap}
def spOpen (K : PySem.W.Frag) : Sp := fun vs H Q _ => ∃ (a : Addr) (ns : List Int), vs = [.ref a] ∧ SqL K H a (ns.map V.int) ∧ ∀ H' p, Same H H' → H p = none → Pen H' p 0 → Q (.ref p) H'
theorem ok_open (T : TPen K mg) : Ok P w K mg base CX0 1 "_law_open" ["script"] (spOpen K) := by
  refine T.d_open.ok sc__law_open bi__law_open (fun vs H Q E h => ?_) (fun cdv A outer s H f vs Q E hr h => ?_)
  · obtain ⟨a, ns, rfl, _⟩ := h
    rfl
  · obtain ⟨a, ns, rfl, hS, q⟩ := h
    refine ⟨_, (pss_cons (ps_set (i := 1) sc__law_open.nd rfl (Or.inl rfl) (pe_callTy call_list_of (by rfl) T.b_list (by decide +kernel) (pa_cons (pe_slice sl_list (pv 0) po_none (po_some pe_int)) pa_nil)))
    (pss_cons (ps_for PassesOwn.never rfl (pi_enum (by rfl) T.b_enumerate (pa_cons (pe_slice sl_list (pv 0) (po_some pe_int) (po_some pe_int)) pa_nil)) (pg_tup rfl (pgs_cons (pg_name (i := 2) sc__law_open.nd rfl (Or.inl rfl)) (pgs_cons (pg_name (i := 3) sc__law_open.nd rfl (Or.inl rfl)) pgs_nil))) (pss_one (ps_asg (pe_op op_add (pe_ix ix_list (pv 1) (pe_op op_mod (pv 2) pe_int) (fun _ _ => rfl)) (pv 3)) (pg_sub (pv 1) (pe_op op_mod (pv 2) pe_int) set_list))))
    (pss_one (ps_ret (pe_lst (pa_cons (pv 1) (pa_cons pe_int (pa_cons pe_int pa_nil)))))))), ?_⟩
    refine ⟨.ref a, rfl, 12, rfl, a, ns.map V.int, rfl, hS, fun s1 n1 => ?_⟩
    refine ⟨s1, _, rfl, .inl (.inl (.inl upd_same)), fun l nl => ?_⟩
    have m1 : Same H (upd H s1 (.lst (cutV (ns.map V.int) none (some 12)))) := same_new n1
    have m2 : Same H (upd (upd H s1 (.lst (cutV (ns.map V.int) none (some 12)))) l (.lst (cutV (ns.map V.int) none (some 12)))) := Same.new m1 nl
    refine ⟨.ref a, rfl, 12, rfl, 63, rfl, a, ns.map V.int, rfl, m2.seq hS, fun s2 n2 => ?_⟩
    have m3 := Same.new m2 n2 (o := .lst (cutV (ns.map V.int) (some 12) (some 63)))
    have e1 : cutV (ns.map V.int) none (some 12) = (ns.take 12).map V.int := cut_to 12
    obtain ⟨ms, e2⟩ := cut_len (ns := ns) (some 12) (some 63)
    have nls : l ≠ s2 := fun e => by
      rw [e] at n2
      rw [upd_same] at n2
      cases n2
    have fl : H l = none := m1.free nl
    refine ⟨s2, _, rfl, .inl (.inl upd_same), ?_⟩
    refine for_it walk_enum (fun i σ H' => ∃ (cs : List Int) (y2 y3 : Option V), σ = [some (.ref a), some (.ref l), y2, y3] ∧ Same H H' ∧ H' l = some (.lst (cs.map V.int)) ∧ cs.length = (ns.take 12).length ∧ H' s2 = some (.lst (cutV (ns.map V.int) (some 12) (some 63))))
      ⟨ns.take 12, none, none, rfl, m3, ?_, rfl, upd_same⟩ (fun i σ H' _ ⟨cs, y2, y3, _, _, _, _, h5⟩ => .inl (.inl h5)) ?_ ?_
    · rw [upd_ne nls, upd_same, e1]
    · rintro i x σ H' H'' hi ⟨cs, y2, y3, rfl, h2, h3, h4, h5⟩ ⟨T', x1, x2, rfl, nT, rfl, f1, f2⟩
      have ex1 : x1 = .int (i : Nat) := (Option.some.inj f1).symm
      subst ex1
      have f2' : (ms.map V.int)[i]? = some x2 := by rw [← e2]; exact f2
      rw [e2, List.length_map] at hi
      obtain ⟨z, hz⟩ := ints_get hi
      have ex2 : x2 = .int z := Option.some.inj (f2'.symm.trans hz)
      subst ex2
      have h12 : 12 < ns.length := Nat.lt_of_not_le fun hle => by
        have := cut_past (ns := ns) (k := 12) (h := 63) hle
        have e3 : ms.map V.int = [] := e2.symm.trans this
        have : ms = [] := List.map_eq_nil_iff.mp e3
        rw [this] at hi
        exact Nat.not_lt_zero _ hi
      have hcl : cs.length = 12 := by rw [h4, List.length_take]; omega
      have j0 : (0 : Int) ≤ (i : Int) % 12 := Int.emod_nonneg _ (by decide)
      have j1 : (i : Int) % 12 < (cs.length : Int) := by rw [hcl]; exact Int.emod_lt_of_pos _ (by decide)
      obtain ⟨c, _, hc⟩ := ints_at j0 j1
      have nTl : l ≠ T' := ne_of_none h3 nT
      have nTs : s2 ≠ T' := ne_of_none h5 nT
      have h3' : (upd H' T' (.tup [V.int (i : Nat), V.int z])) l = some (.lst (cs.map V.int)) := by rw [upd_ne nTl]; exact h3
      refine ⟨T', _, rfl, .inl (.inl upd_same), rfl, _, _, rfl, _, _, rfl, rfl, ?_⟩
      refine ⟨_, rfl, _, rfl, (i : Nat), 12, rfl, rfl, (by show (0 : Int) < 12; decide), l, _, _, .int c, rfl, rfl, .inl (.inl h3'), hc, ?_⟩
      refine ⟨_, rfl, c, z, rfl, rfl, _, rfl, _, rfl, (i : Nat), 12, rfl, rfl, (by show (0 : Int) < 12; decide), l, _, _, ((i : Int) % 12).toNat, rfl, rfl, h3', ?_, ?_⟩
      · rw [List.length_map]
        exact ixN_in j0 j1
      · refine ⟨cs.set ((i : Int) % 12).toNat (c + z), _, _, rfl, fun b o e => ?_, ?_, ?_, ?_⟩
        · have nb : b ≠ l := ne_of_none e fl
          rw [upd_ne nb]
          exact same_new nT _ _ (h2 _ _ e)
        · rw [upd_same, ints_set]
        · rw [List.length_set]
          exact h4
        · rw [upd_ne (fun e => nls e.symm), upd_ne nTs]
          exact h5
    · rintro σ H' ⟨cs, y2, y3, rfl, h2, h3, h4, h5⟩
      refine ⟨_, rfl, sz_of (by show 3 ≤ 100000; decide), fun p np => ?_⟩
      refine q _ p (Same.new h2 np) (h2.free np) ⟨l, cs, 0, 0, upd_same, ?_, ?_, Int.le_refl _, Int.le_refl _⟩
      · rw [upd_ne (ne_of_none h3 np)]
        exact h3
      · rw [h4, List.length_take]
        omega
def spSpread : Sp := fun vs H Q _ => ∃ (cell at' : Int), vs = [.int cell, .int at'] ∧ 0 ≤ at' ∧ at' ≤ 2147483648 ∧ ∀ z H', Same H H' → Q (.int z) H'
theorem primes_at {j : Int} (h0 : 0 ≤ j) (h1 : j < 13) : ∃ z : Int, atI [V.int 2147483629, .int 2147483587, .int 2147483579, .int 2147483563, .int 2147483549, .int 2147483543, .int 2147483497, .int 2147483489, .int 2147483477, .int 2147483423, .int 2147483399, .int 2147483353, .int 2147483323] j = some (.int z) ∧ 0 < z ∧ z < 2147483648 := by
  obtain ⟨z, hm, hz⟩ := ints_at (ns := [2147483629, 2147483587, 2147483579, 2147483563, 2147483549, 2147483543, 2147483497, 2147483489, 2147483477, 2147483423, 2147483399, 2147483353, 2147483323]) h0 h1
  refine ⟨z, hz, ?_⟩
  simp only [List.mem_cons, List.not_mem_nil, or_false] at hm
  omega
theorem ok_spread (T : TPen K mg) : Ok P w K mg base CX0 1 "_law_spread" ["cell", "at"] spSpread := by
  refine T.d_spread.ok sc__law_spread bi__law_spread (fun vs H Q E h => ?_) (fun cdv A outer s H f vs Q E hr h => ?_)
  · obtain ⟨a, b, rfl, _⟩ := h
    rfl
  · obtain ⟨cell, at', rfl, a0, a1, q⟩ := h
    refine ⟨_, (pss_cons (ps_if (pt_cmpR op_ge (pv 0) (pe_op op_pow pe_int pe_int) (nomark _)) (pss_one (ps_ret (pv 0))) pss_nil)
    (pss_cons (ps_set (i := 2) sc__law_spread.nd rfl (Or.inl rfl) (pe_lst (pa_cons pe_int (pa_cons pe_int (pa_cons pe_int (pa_cons pe_int (pa_cons pe_int (pa_cons pe_int (pa_cons pe_int (pa_cons pe_int pa_nil))))))))))
    (pss_cons (ps_set (i := 2) sc__law_spread.nd rfl (Or.inl rfl) (pe_op op_cat (pv 2) (pe_lst (pa_cons pe_int (pa_cons pe_int (pa_cons pe_int (pa_cons pe_int (pa_cons pe_int pa_nil))))))))
    (pss_cons (ps_set (i := 3) sc__law_spread.nd rfl (Or.inl rfl) (pe_op op_mod (pe_op op_pow (pe_op op_add (pe_op op_add (pe_op op_mul (pe_op op_mod (pv 0) pe_int) (pe_op op_add (pe_op op_mul pe_int (pv 1)) pe_int)) (pe_op op_mul (pv 1) pe_int)) pe_int) pe_int) (pe_ix ix_list (pv 2) (pe_op op_mod (pv 1) pe_int) (fun _ _ => rfl))))
    (pss_cons (ps_set (i := 4) sc__law_spread.nd rfl (Or.inl rfl) (pe_op op_mod (pe_op op_pow (pe_op op_add (pe_op op_add (pe_op op_mul (pv 3) (pe_op op_add (pv 1) pe_int)) (pe_op op_mod (pv 0) pe_int)) pe_int) pe_int) (pe_ix ix_list (pv 2) (pe_op op_mod (pe_op op_add (pv 1) pe_int) pe_int) (fun _ _ => rfl))))
    (pss_cons (ps_set (i := 5) sc__law_spread.nd rfl (Or.inl rfl) (pe_op op_mod (pe_op op_pow (pe_op op_add (pe_op op_add (pv 4) (pe_op op_mod (pv 3) pe_int)) (pv 1)) pe_int) (pe_ix ix_list (pv 2) (pe_op op_mod (pe_op op_add (pv 1) pe_int) pe_int) (fun _ _ => rfl))))
    (pss_one (ps_ret (pe_op op_add (pe_op op_mul (pe_op op_add (pe_op op_mul (pv 3) pe_int) (pv 4)) pe_int) (pv 5)))))))))), ?_⟩
    refine ⟨_, rfl, 10, 18, rfl, rfl, ⟨by decide, by decide, by decide⟩, cell, _, rfl, rfl, _, rfl, ite2 (fun _ => ?_) (fun _ => ?_)⟩
    · exact ⟨_, rfl, q cell H (Same.refl _)⟩
    refine ⟨sz_of (by show 8 ≤ 100000; decide), fun l1 n1 => ?_⟩
    refine ⟨_, rfl, sz_of (by show 5 ≤ 100000; decide), fun l2 n2 => ?_⟩
    have n12 : l1 ≠ l2 := fun e => by
      rw [e] at n2
      rw [upd_same] at n2
      cases n2
    refine ⟨l1, l2, _, _, rfl, rfl, (by rw [upd_ne n12]; exact upd_same), upd_same, sz_of (by show 13 ≤ 100000; decide), fun l3 n3 => ?_⟩
    have m3 := fun (o : HO) => Same.new (Same.new (same_new n1) n2) n3 (o := o)
    -- one
    have c0 : 0 ≤ cell % 1000000007 := Int.emod_nonneg _ (by decide)
    have c1 : cell % 1000000007 < 1000000007 := Int.emod_lt_of_pos _ (by decide)
    have d0 : 0 ≤ cell % 65537 := Int.emod_nonneg _ (by decide)
    have d1 : cell % 65537 < 65537 := Int.emod_lt_of_pos _ (by decide)
    have i0 : (0 : Int) ≤ at' % 13 := Int.emod_nonneg _ (by decide)
    have i1 : at' % 13 < 13 := Int.emod_lt_of_pos _ (by decide)
    obtain ⟨p1, hp1, pa, pb⟩ := primes_at i0 i1
    have k1 : 0 ≤ cell % 1000000007 * (2 * at' + 69069) := Int.mul_nonneg c0 (by omega)
    have k2 : cell % 1000000007 * (2 * at' + 69069) ≤ 1000000007 * (2 * 2147483648 + 69069) := Int.mul_le_mul (by omega) (by omega) (by omega) (by decide)
    refine ⟨_, rfl, cell, 1000000007, rfl, rfl, (by show (0 : Int) < 1000000007; decide), ?_⟩
    refine ⟨_, rfl, 2, at', rfl, rfl, .inl ⟨by decide, by decide⟩, _, 69069, rfl, rfl, _, _, rfl, rfl, .inl ⟨by omega, by omega⟩, ?_⟩
    refine ⟨_, rfl, at', 40503, rfl, rfl, .inr ⟨by decide, by decide⟩, _, _, rfl, rfl, _, 977, rfl, rfl, _, 3, rfl, rfl, ⟨by decide, by decide, by
      generalize cell % 1000000007 * (2 * at' + 69069) = u1 at k1 k2 ⊢
      omega⟩, ?_⟩
    refine ⟨_, rfl, _, rfl, at', 13, rfl, rfl, (by show (0 : Int) < 13; decide), l3, _, _, _, rfl, rfl, .inl (.inl upd_same), hp1, _, p1, rfl, rfl, pa, ?_⟩
    dsimp only
    generalize ((cell % 1000000007 * (2 * at' + 69069) + at' * 40503 + 977) ^ ((3 : Int).toNat)) = u2
    have o0 : 0 ≤ u2 % p1 := Int.emod_nonneg _ (by omega)
    have o1 : u2 % p1 < 2147483648 := Int.lt_trans (Int.emod_lt_of_pos _ pa) pb
    generalize u2 % p1 = one at o0 o1 ⊢
    -- two
    have j0 : (0 : Int) ≤ (at' + 5) % 13 := Int.emod_nonneg _ (by decide)
    have j1 : (at' + 5) % 13 < 13 := Int.emod_lt_of_pos _ (by decide)
    obtain ⟨p2, hp2, pc, pd⟩ := primes_at j0 j1
    have t1 : 0 ≤ one * (at' + 3) := Int.mul_nonneg o0 (by omega)
    have t2 : one * (at' + 3) ≤ 2147483648 * (2147483648 + 3) := Int.mul_le_mul (by omega) (by omega) (by omega) (by decide)
    refine ⟨_, rfl, _, rfl, at', 3, rfl, rfl, one, _, rfl, rfl, .inl ⟨by omega, by omega⟩, ?_⟩
    refine ⟨_, rfl, cell, 65537, rfl, rfl, (by show (0 : Int) < 65537; decide), _, _, rfl, rfl, _, 5, rfl, rfl, _, 5, rfl, rfl, ⟨by decide, by decide, ?_⟩, ?_⟩
    · generalize one * (at' + 3) = u3 at t1 t2 ⊢
      omega
    refine ⟨_, rfl, _, rfl, at', 5, rfl, rfl, _, 13, rfl, rfl, (by show (0 : Int) < 13; decide), l3, _, _, _, rfl, rfl, .inl (.inl upd_same), hp2, _, p2, rfl, rfl, pc, ?_⟩
    dsimp only
    generalize ((one * (at' + 3) + cell % 65537 + 5) ^ ((5 : Int).toNat)) = u4
    have w0 : 0 ≤ u4 % p2 := Int.emod_nonneg _ (by omega)
    have w1 : u4 % p2 < 2147483648 := Int.lt_trans (Int.emod_lt_of_pos _ pc) pd
    generalize u4 % p2 = two at w0 w1 ⊢
    -- three
    have g0 : (0 : Int) ≤ (at' + 7) % 13 := Int.emod_nonneg _ (by decide)
    have g1 : (at' + 7) % 13 < 13 := Int.emod_lt_of_pos _ (by decide)
    obtain ⟨p3, hp3, pe, pf⟩ := primes_at g0 g1
    have r0 : 0 ≤ one % 1009 := Int.emod_nonneg _ (by decide)
    have r1 : one % 1009 < 1009 := Int.emod_lt_of_pos _ (by decide)
    refine ⟨_, rfl, _, rfl, one, 1009, rfl, rfl, (by show (0 : Int) < 1009; decide), two, _, rfl, rfl, _, rfl, _, at', rfl, rfl, _, 3, rfl, rfl, ⟨by decide, by decide, by omega⟩, ?_⟩
    refine ⟨_, rfl, _, rfl, at', 7, rfl, rfl, _, 13, rfl, rfl, (by show (0 : Int) < 13; decide), l3, _, _, _, rfl, rfl, .inl (.inl upd_same), hp3, _, p3, rfl, rfl, pe, ?_⟩
    dsimp only
    generalize ((two + one % 1009 + at') ^ ((3 : Int).toNat)) = u5
    generalize u5 % p3 = three
    refine ⟨_, rfl, one, 2147483647, rfl, rfl, .inr ⟨by decide, by decide⟩, _, rfl, _, two, rfl, rfl, _, 2147483647, rfl, rfl, .inr ⟨by decide, by decide⟩, _, rfl, _, three, rfl, rfl, ?_⟩
    exact q _ _ (m3 _)
/-- where the pen's cells stand -/
def cellsOf (H : Hp) (p : Addr) : Option V := match H p with
  | some (.lst (v :: _)) => some v
  | _ => none
def PenT (H H' : Hp) (p : Addr) (B : Nat) : Prop := Pen H' p B ∧ cellsOf H' p = cellsOf H p
/-- _law_take(pen, amount) -/
def spTake : Sp := fun vs H Q _ => ∃ (p : Addr) (n : Int) (B : Nat), vs = [.ref p, .int n] ∧ Pen H p B ∧ B ≤ 1000000000 ∧ 0 < n ∧ n < 1073741824 ∧
  ∀ H' r, Same (off H p) (off H' p) → PenT H H' p (B + 1) → 0 ≤ r → r < n → Q (.int r) H'
theorem ok_take (T : TPen K mg) : Ok P w K mg base CX0 2 "_law_take" ["pen", "many"] spTake := by
  have G__law_spread : Ok P w K mg base CX0 1 "_law_spread" ["cell", "at"] spSpread := ok_spread T
  refine T.d_take.ok sc__law_take bi__law_take (fun vs H Q E h => ?_) (fun cdv A outer s H f vs Q E hr h => ?_)
  · obtain ⟨p, n, B, rfl, _⟩ := h
    rfl
  · obtain ⟨p, n, B, rfl, ⟨c, cs, at', r, hp, hc, hcl, a0, a1⟩, hB, n0, n1, q⟩ := h
    have ncp : c ≠ p := pen_ne hp hc
    have g0 : ∀ z : Int, atI [V.ref c, .int at', .int z] 0 = some (.ref c) := fun z => rfl
    refine ⟨_, (pss_cut (ps_if (pt_cmpR op_lt (pe_ix ix_list (pv 0) pe_int (fun _ _ => rfl)) (pv 1) (nomark _)) (pss_cons (ps_set (i := 2) sc__law_take.nd rfl (Or.inl rfl) (pe_ix ix_list (pv 0) pe_int (fun _ _ => rfl)))
    (pss_cons (ps_set (i := 3) sc__law_take.nd rfl (Or.inl rfl) pe_int)
    (pss_cut (ps_if (pt_cmpR op_lt (pv 2) (pe_callB call_len_seq (by rfl) T.b_len (by decide +kernel) (pa_cons (pe_ix ix_list (pv 0) pe_int (fun _ _ => rfl)) pa_nil)) (nomark _)) (pss_one (ps_set (i := 3) sc__law_take.nd rfl (Or.inl rfl) (pe_ix ix_list (pe_ix ix_list (pv 0) pe_int (fun _ _ => rfl)) (pv 2) (fun _ _ => rfl)))) (pss_one (ps_if (pt_cmpR op_gt (pe_callB call_len_seq (by rfl) T.b_len (by decide +kernel) (pa_cons (pe_ix ix_list (pv 0) pe_int (fun _ _ => rfl)) pa_nil)) pe_int (nomark _)) (pss_one (ps_set (i := 3) sc__law_take.nd rfl (Or.inl rfl) (pe_op op_mod (pe_ix ix_list (pe_ix ix_list (pv 0) pe_int (fun _ _ => rfl)) (pe_op op_mod (pe_op op_add (pe_op op_mul (pv 2) pe_int) pe_int) (pe_callB call_len_seq (by rfl) T.b_len (by decide +kernel) (pa_cons (pe_ix ix_list (pv 0) pe_int (fun _ _ => rfl)) pa_nil))) (fun _ _ => rfl)) (pe_op op_add (pe_op op_pow pe_int pe_int) (pv 2))))) pss_nil)))
    (pss_cons (ps_asg (pe_op op_add (pv 2) pe_int) (pg_sub (pv 0) pe_int set_list))
    (pss_one (ps_asg (pe_callO G__law_spread (hr.mono (by decide)) (pa_cons (pv 3) (pa_cons (pv 2) pa_nil))) (pg_sub (pv 0) pe_int set_list))))))) pss_nil)
    (pss_cons (ps_set (i := 4) sc__law_take.nd rfl (Or.inl rfl) (pe_op op_mod (pe_ix ix_list (pv 0) pe_int (fun _ _ => rfl)) (pv 1)))
    (pss_cons (ps_asg (pe_op op_fdiv (pe_ix ix_list (pv 0) pe_int (fun _ _ => rfl)) (pv 1)) (pg_sub (pv 0) pe_int set_list))
    (pss_one (ps_ret (pv 4)))))), ?_⟩
    -- behind the first if: the pen with a rest
    refine ⟨fun σ' H' => ∃ (y2 y3 : Option V) (a2 r2 : Int), σ' = [some (.ref p), some (.int n), y2, y3, none] ∧ Same (off H p) (off H' p) ∧ H' p = some (.lst [.ref c, .int a2, .int r2]) ∧ H' c = some (.lst (cs.map V.int)) ∧ 0 ≤ a2 ∧ a2 ≤ (B : Int) + 1, ?_, ?_⟩
    · refine ⟨_, rfl, p, _, 2, _, rfl, rfl, .inl (.inl hp), rfl, _, rfl, r, n, rfl, rfl, _, rfl, ite2 (fun _ => ?_) (fun _ => ?_)⟩
      · -- at = pen[1]; cell = 0
        refine ⟨_, rfl, p, _, 1, _, rfl, rfl, .inl (.inl hp), rfl, ?_⟩
        -- cell
        refine ⟨fun σ' H' => H' = H ∧ ∃ z : Int, σ' = [some (.ref p), some (.int n), some (.int at'), some (.int z), none], ?_, ?_⟩
        · refine ⟨_, rfl, _, rfl, p, _, 0, _, rfl, rfl, .inl (.inl hp), rfl, c, _, rfl, .inl (.inl (.inl hc)), at', _, rfl, rfl, _, rfl, ite2 (fun hlt => ?_) (fun hge => ?_)⟩
          · have hlt := of_decide_eq_true hlt
            rw [List.length_map] at hlt
            obtain ⟨z, _, hz⟩ := ints_at a0 hlt
            exact ⟨_, rfl, p, _, 0, _, rfl, rfl, .inl (.inl hp), rfl, _, rfl, c, _, at', _, rfl, rfl, .inl (.inl hc), hz, rfl, z, rfl⟩
          · refine ⟨_, rfl, p, _, 0, _, rfl, rfl, .inl (.inl hp), rfl, c, _, rfl, .inl (.inl (.inl hc)), _, 0, rfl, rfl, _, rfl, ite2 (fun hgt => ?_) (fun hng => ?_)⟩
            · have hgt := of_decide_eq_true hgt
              rw [List.length_map] at hgt
              have i0 : (0 : Int) ≤ (at' * 5 + 3) % (cs.length : Int) := Int.emod_nonneg _ (by omega)
              have i1 : (at' * 5 + 3) % (cs.length : Int) < (cs.length : Int) := Int.emod_lt_of_pos _ hgt
              obtain ⟨z, _, hz⟩ := ints_at i0 i1
              refine ⟨_, rfl, p, _, 0, _, rfl, rfl, .inl (.inl hp), rfl, _, rfl, at', 5, rfl, rfl, .inr ⟨by decide, by decide⟩, _, 3, rfl, rfl, ?_⟩
              refine ⟨_, rfl, p, _, 0, _, rfl, rfl, .inl (.inl hp), rfl, c, _, rfl, .inl (.inl (.inl hc)), _, _, rfl, rfl, ?_, c, _, _, _, rfl, rfl, .inl (.inl hc), ?_, 10, 17, rfl, rfl, ⟨by decide, by decide, by decide⟩, _, rfl, _, at', rfl, rfl, z, _, rfl, rfl, ?_, rfl, _, rfl⟩
              · show (0 : Int) < ((cs.map V.int).length : Int)
                rw [List.length_map]
                exact hgt
              · rw [List.length_map]
                exact hz
              · show (0 : Int) < 10 ^ ((17 : Int).toNat) + at'
                have : (0 : Int) < 10 ^ ((17 : Int).toNat) := by decide
                omega
            · exact ⟨rfl, 0, rfl⟩
        · rintro σ' H' ⟨rfl, z, rfl⟩
          -- pen[1] = at + 1
          refine ⟨_, rfl, at', 1, rfl, rfl, _, rfl, p, _, 1, 1, rfl, rfl, hp, rfl, ?_⟩
          -- pen[2] = _law_spread(cell, at)
          refine ⟨_, rfl, _, rfl, z, at', rfl, a0, by omega, fun z2 H2 s2 => ?_⟩
          have hp2 : H2 p = some (.lst [.ref c, .int (at' + 1), .int r]) := s2 _ _ upd_same
          have hc2 : H2 c = some (.lst (cs.map V.int)) := s2 _ _ (by rw [upd_ne ncp]; exact hc)
          refine ⟨_, rfl, p, _, 2, 2, rfl, rfl, hp2, rfl, some (.int at'), some (.int z), at' + 1, z2, rfl, ?_, upd_same, ?_, by omega, by omega⟩
          · refine off_upd fun b o e => ?_
            have hb : b ≠ p := fun z => by
              subst z
              rw [off_same] at e
              cases e
            rw [off_ne hb] at e ⊢
            exact s2 _ _ (by rw [upd_ne hb]; exact e)
          · rw [upd_ne ncp]
            exact hc2
      · exact ⟨none, none, at', r, rfl, Same.refl _, hp, hc, a0, by omega⟩
    · rintro σ' H' ⟨y2, y3, a2, r2, rfl, hs, hp', hc', b0, b1⟩
      have f0 : 0 ≤ r2 % n := Int.emod_nonneg _ (by omega)
      have f1 : r2 % n < n := Int.emod_lt_of_pos _ n0
      -- found = int(pen[2]) % amount; pen[2] = pen[2] // amount; return found
      refine ⟨_, rfl, p, _, 2, _, rfl, rfl, .inl (.inl hp'), rfl, _, rfl, r2, n, rfl, rfl, n0, ?_⟩
      refine ⟨_, rfl, p, _, 2, _, rfl, rfl, .inl (.inl hp'), rfl, _, rfl, r2, n, rfl, rfl, ⟨n0, n1⟩, _, rfl, p, _, 2, 2, rfl, rfl, hp', rfl, ?_⟩
      refine ⟨_, rfl, q _ _ (off_upd hs) ⟨⟨c, cs, a2, r2 / n, upd_same, ?_, hcl, b0, by omega⟩, ?_⟩ f0 f1⟩
      · rw [upd_ne ncp]
        exact hc'
      · unfold cellsOf
        rw [hp, upd_same]
        rfl
end
end FW
set_option Elab.async false
set_option linter.all false
set_option maxRecDepth 100000
set_option maxHeartbeats 4000000
namespace FW
open PySem PySem.Spec PyProof.Rows L2
open Evl (pss_cut tCut)
open Evl (Ex Ev EvT EvA EvL EvU RC RV fresh_back ev_var ev_c ea_nil ea_cons ev_cb ev_op ev_is ev_andV ev_orV ev_notV et_test et_B et_and et_or et_not et_is s_ret s_when q_when q_asg q_asgL q_asgU rv_I0 rv_eq rv_ne rv_ixT rv_ixL)
structure TDraw (K : PySem.W.Frag) (mg : Str → Option Value) : Prop extends TPen K mg where
  b_range : mg "range" = none
  b_tuple : mg "tuple" = none
  d_pick : Df K mg "_law_w_pick" s__law_w_pick
  d_straight : Df K mg "_law_w_straight" s__law_w_straight
  d_line : Df K mg "_law_w_line" s__law_w_line
  d_prog : Df K mg "_law_w_program" s__law_w_program
/-- the pen at p, B read since; what else stood at H0 stands -/
structure PAt (p : Addr) (B : Nat) (H0 H : Hp) : Prop where
  ex : Ex (off H0 p) (off H p)
  pen : Pen H p B
  cell : cellsOf H p = cellsOf H0 p
section
variable {p a : Addr} {B B' : Nat} {H0 H H1 : Hp} {o : HO} {vs : List V} {ds : List PyData}
theorem Pen.some (h : Pen H p B) : ∃ o, H p = some o := by
  obtain ⟨c, cs, at', r, h1, _⟩ := h
  exact ⟨_, h1⟩
theorem Pen.ne (h : Pen H p B) (n : H a = none) : a ≠ p := fun e => by
  subst e
  obtain ⟨o, h1⟩ := h.some
  rw [n] at h1
  cases h1
theorem PAt.new (c : PAt p B H0 H) (n : H a = none) : PAt p B H0 (upd H a o) := ⟨c.ex.trans (off_mono (same_new n)), c.pen.ext (same_new n), by
  rw [← c.cell]
  unfold cellsOf
  rw [upd_ne fun z => c.pen.ne n z.symm]⟩
theorem PAt.more (c : PAt p B H0 H) (e : Ex H H1) : PAt p B H0 H1 := ⟨c.ex.trans (off_mono e), c.pen.ext e, by
  rw [← c.cell]
  obtain ⟨o, h⟩ := c.pen.some
  unfold cellsOf
  rw [h, e _ _ h]⟩
theorem PAt.take (c : PAt p B H0 H) (s : Same (off H p) (off H1 p)) (pn : PenT H H1 p B') : PAt p B' H0 H1 := ⟨c.ex.trans s, pn.1, pn.2.trans c.cell⟩
theorem PAt.upd {B0 : Nat} {D : Addr} {ys : List V} (c : PAt p B H0 H) (h0 : Pen H0 p B0) (n : H0 D = none) : PAt p B H0 (upd H D (.lst ys)) := by
  have pD : p ≠ D := fun z => h0.ne n z.symm
  refine ⟨fun a u e => ?_, ?_, ?_⟩
  · have e2 := c.ex a u e
    have na : a ≠ p := fun z => by
      subst z
      rw [off_same] at e
      cases e
    rw [off_ne na] at e e2 ⊢
    have nD : a ≠ D := ne_of_none e n
    rw [upd_ne nD]
    exact e2
  · obtain ⟨c0, cs0, a0, r0, g1, g2, _⟩ := h0
    obtain ⟨c1, cs, a', r, f1, f2, f3⟩ := c.pen
    have e := c.cell
    unfold cellsOf at e
    rw [g1, f1] at e
    have e' : c1 = c0 := by
      have z : some (V.ref c1) = some (V.ref c0) := e
      cases z
      rfl
    subst e'
    exact ⟨c1, cs, a', r, by rw [upd_ne pD]; exact f1, by rw [upd_ne (ne_of_none g2 n)]; exact f2, f3⟩
  · rw [← c.cell]
    unfold cellsOf
    rw [upd_ne pD]
theorem PAt.refl (h : Pen H p B) : PAt p B H H := ⟨Ex.refl _, h, rfl⟩
theorem PAt.trans (c : PAt p B H0 H) (d : PAt p B' H H1) : PAt p B' H0 H1 := ⟨c.ex.trans d.ex, d.pen, d.cell.trans c.cell⟩
theorem PAt.mono (c : PAt p B H0 H) (h : B ≤ B') : PAt p B' H0 H := ⟨c.ex, c.pen.mono h, c.cell⟩
theorem PAt.da (c : PAt p B H0 H) {v : V} {d : PyData} (h : Da (off H0 p) v d) : Da (off H p) v d := h.ex c.ex
theorem da_tupN (h : Pen H p B) (n : H a = none) (d : DaAll (off H p) vs ds) : Da (off (upd H a (.tup vs)) p) (.ref a) (.tuple ds) :=
  .tup (off_of upd_same (h.ne n)) (d.ex (off_mono (same_new n)))
theorem da_new {v : V} {d : PyData} (h : Da (off H p) v d) (n : H a = none) : Da (off (upd H a o) p) v d := h.ex (off_mono (same_new n))
end
mutual
/-- data of tuples alone -/
def noL : PyData → Bool
  | .tuple ds => noLAll ds
  | .list _ | .dict _ => false
  | .none | .bool _ | .int _ | .str _ => true
def noLAll : List PyData → Bool
  | [] => true
  | d :: ds => noL d && noLAll ds
end
/-- tuples stay -/
def ExT (H H' : Hp) : Prop := ∀ a xs, H a = some (.tup xs) → H' a = some (.tup xs)
mutual
theorem Da.exT {H H' : Hp} (e : ExT H H') : ∀ {d : PyData} {v : V}, noL d = true → Da H v d → Da H' v d
  | .none, _, _, h => by cases h; exact .non
  | .bool b, _, _, h => by cases h; exact .bl b
  | .int i, _, _, h => by cases h; exact .int i
  | .str x, _, _, h => by cases h; exact .str x
  | .tuple ds, _, n, h => by
    cases h with
    | tup h1 h2 => exact .tup (e _ _ h1) (DaAll.exT e n h2)
  | .list _, _, n, _ => by cases n
  | .dict _, _, n, _ => by cases n
theorem DaAll.exT {H H' : Hp} (e : ExT H H') : ∀ {ds : List PyData} {vs : List V}, noLAll ds = true → DaAll H vs ds → DaAll H' vs ds
  | [], _, _, h => by cases h; exact .nil
  | d :: ds, _, n, h => by
    cases h with
    | cons h1 h2 =>
      have n' : (noL d && noLAll ds) = true := n
      rw [Bool.and_eq_true] at n'
      exact .cons (Da.exT e n'.1 h1) (DaAll.exT e n'.2 h2)
end
theorem noLAll_of {ds : List PyData} (h : ∀ d ∈ ds, noL d = true) : noLAll ds = true := by
  induction ds with
  | nil => rfl
  | cons d r ih =>
    show (noL d && noLAll r) = true
    rw [h d List.mem_cons_self, ih fun x hx => h x (List.mem_cons_of_mem _ hx)]
    rfl
theorem ExT.of {H H' : Hp} (e : Ex H H') : ExT H H' := fun a xs h => e a _ h
theorem ExT.trans {H H1 H2 : Hp} (e : ExT H H1) (f : ExT H1 H2) : ExT H H2 := fun a xs h => f a xs (e a xs h)
theorem ExT.lst {H : Hp} {D : Addr} {xs : List V} {o : HO} (h : H D = some (.lst xs)) : ExT H (upd H D o) := fun a ys e => by
  have n : a ≠ D := fun z => by
    subst z
    rw [h] at e
    cases e
  rw [upd_ne n]
  exact e
theorem ExT.off {H : Hp} {p : Addr} {B : Nat} (h : Pen H p B) : ExT H (off H p) := fun a ys e => off_of e fun z => by
  subst z
  obtain ⟨c, cs, at', r, h1, _⟩ := h
  rw [h1] at e
  cases e
theorem PAt.exT {p : Addr} {B B0 : Nat} {H0 H : Hp} (h0 : Pen H0 p B0) (c : PAt p B H0 H) : ExT H0 H := fun a ys e => off_sub _ _ (c.ex _ _ (ExT.off h0 a ys e))
def dpT (z : Int × Int) : PyData := .tuple [.int z.1, .int z.2]
/-- all fields of all units, as the draws hold them -/
def FieldsOk (H : Hp) (l : Addr) (fs : List Int) : Prop := ∃ (xs : List V) (zs : List (Int × Int)), H l = some (.lst xs) ∧ DaAll H xs (zs.map dpT) ∧ zs.length < 1000 ∧ ∀ z ∈ zs, 0 ≤ z.1 ∧ z.1.toNat < fs.length ∧ 0 ≤ z.2 ∧ z.2 < fs.getD z.1.toNat 0
theorem FieldsOk.ex {H H' : Hp} {l : Addr} {fs : List Int} (h : FieldsOk H l fs) (e : Ex H H') : FieldsOk H' l fs := by
  obtain ⟨xs, zs, h1, h2, h3⟩ := h
  exact ⟨xs, zs, e _ _ h1, h2.ex e, h3⟩
theorem st_ofD {K : PySem.W.Frag} {H : Hp} {a : Addr} {xs : List V} (h : H a = some (.tup xs)) : SqT K H a xs := .inl (.inl h)
mutual
theorem Da.dp {K : PySem.W.Frag} {H : Hp} : ∀ {d : PyData} {v : V}, d.hasDict = false → Da H v d → Dp K H v d
  | .none, _, _, h => by cases h; exact .non
  | .bool b, _, _, h => by cases h; exact .bl b
  | .int i, _, _, h => by cases h; exact .int i
  | .str x, _, _, h => by cases h; exact .str x
  | .list ds, _, n, h => by
    cases h with
    | lst h1 h2 => exact .lst (.inl (.inl h1)) (DaAll.dp (by simpa [PyData.hasDict] using n) h2)
  | .tuple ds, _, n, h => by
    cases h with
    | tup h1 h2 => exact .tup (st_ofD h1) (DaAll.dp (by simpa [PyData.hasDict] using n) h2)
  | .dict _, _, n, h => by simp [PyData.hasDict] at n
theorem DaAll.dp {K : PySem.W.Frag} {H : Hp} : ∀ {ds : List PyData} {vs : List V}, PyData.hasDictAll ds = false → DaAll H vs ds → DpAll K H vs ds
  | [], _, _, h => by cases h; exact .nil
  | d :: ds, _, n, h => by
    cases h with
    | cons h1 h2 =>
      simp only [PyData.hasDictAll, Bool.or_eq_false_iff] at n
      exact .cons (Da.dp n.1 h1) (DaAll.dp n.2 h2)
end
theorem zs_no (zs : List (Int × Int)) : PyData.hasDictAll (zs.map dpT) = false := by
  induction zs with
  | nil => rfl
  | cons z r ih => rw [List.map_cons, PyData.hasDictAll, ih]; rfl
theorem zs_lay (zs : List (Int × Int)) : PyData.canLayAll0 (zs.map dpT) = true := by
  induction zs with
  | nil => rfl
  | cons z r ih => rw [List.map_cons, PyData.canLayAll0, ih]; rfl
theorem zs_deep (zs : List (Int × Int)) : PyData.depthAll (zs.map dpT) ≤ 1 := by
  induction zs with
  | nil => exact Nat.zero_le _
  | cons z r ih => rw [List.map_cons, PyData.depthAll]; exact Nat.max_le.mpr ⟨Nat.le_refl _, ih⟩
theorem zs_shaped (zs : List (Int × Int)) : SeqAt.shaped (.list (zs.map dpT)) = true := by
  unfold SeqAt.shaped
  rw [Bool.and_eq_true]
  refine ⟨zs_lay zs, decide_eq_true ?_⟩
  have := zs_deep zs
  show PyData.depthAll _ + 1 ≤ 64
  omega
section
variable {P : Program} {w : World} {K : PySem.W.Frag} {mg : Str → Option Value} {base : Heap}
def spPick : Sp := fun vs H Q _ => ∃ (p l : Addr) (xs : List V) (B : Nat), vs = [.ref p, .ref l] ∧ Pen H p B ∧ B ≤ 1000000000 ∧ off H p l = some (.lst xs) ∧ 0 < xs.length ∧ xs.length < 1000000 ∧
  ∀ H' x, Same (off H p) (off H' p) → PenT H H' p (B + 1) → x ∈ xs → Q x H'
theorem atI_in {xs : List V} {i : Int} (h0 : 0 ≤ i) (h : i < (xs.length : Int)) : ∃ x, x ∈ xs ∧ atI xs i = some x := by
  obtain ⟨j, rfl⟩ := Int.eq_ofNat_of_zero_le h0
  have hj : j < xs.length := by omega
  exact ⟨xs[j], List.getElem_mem hj, atI_nat (List.getElem?_eq_getElem hj)⟩
theorem ok_pick (T : TDraw K mg) : Ok P w K mg base CX0 3 "_law_w_pick" ["pen", "some"] spPick := by
  have G__law_take : Ok P w K mg base CX0 2 "_law_take" ["pen", "many"] spTake := ok_take T.toTPen
  refine T.d_pick.ok sc__law_w_pick bi__law_w_pick (fun vs H Q E h => ?_) (fun cdv A outer s H f vs Q E hr h => ?_)
  · obtain ⟨p, l, xs, B, rfl, _⟩ := h
    rfl
  · obtain ⟨p, l, xs, B, rfl, hp, hB, hl, h0, h1, q⟩ := h
    refine ⟨_, (pss_one (ps_ret (pe_ix ix_list (pv 1) (pe_callO G__law_take (hr.mono (by decide)) (pa_cons (pv 0) (pa_cons (pe_callB call_len_seq (by rfl) T.b_len (by decide +kernel) (pa_cons (pv 1) pa_nil)) pa_nil))) (fun _ _ => rfl)))), ?_⟩
    refine ⟨_, rfl, _, rfl, _, rfl, l, xs, rfl, .inl (.inl (.inl (off_sub _ _ hl))), p, _, B, rfl, hp, hB, by omega, by omega, fun H1 r s1 p1 r0 r1 => ?_⟩
    obtain ⟨x, hx, ex⟩ := atI_in r0 r1
    exact ⟨l, xs, r, x, rfl, rfl, .inl (.inl (off_sub _ _ (s1 _ _ hl))), ex, q H1 x s1 p1 hx⟩
/-! #### an instruction that may stand anywhere -/
def spStr : Sp := fun vs H Q _ => ∃ (p l : Addr) (n : Int) (B : Nat) (fs : List Int), vs = [.ref p, .ref l, .int n] ∧ Pen H p B ∧ B ≤ 900000000 ∧ 0 < n ∧ n < 1000000 ∧ FieldsOk (off H p) l fs ∧
  ∀ H' v d, PAt p (B + 8) H H' → Da (off H' p) v d → noL d = true → okIns false (limsI fs.length) fs d = true → Q v H'
theorem isIn_of {i lo hi : Int} (h0 : lo ≤ i) (h1 : i ≤ hi) : isIn (.int i) lo hi = true := by
  show (decide (lo ≤ i) && decide (i ≤ hi)) = true
  rw [decide_eq_true h0, decide_eq_true h1]
  rfl
theorem ins1 {b : Bool} {lims : Lims} {fs : List Int} {w k : Str} {x : PyData} (hk : kindsOf b w = some [k]) (h1 : okOp lims fs (.str w) k x = true) : okIns b lims fs (.tuple [.str w, x]) = true := by
  show (match kindsOf b w with | some ks => _ | none => false) = true
  rw [hk]
  show (true && okOps lims fs [.str w, x] [k]) = true
  rw [Bool.true_and]
  refine okOps_yes fun i hi => ?_
  obtain rfl : i = 0 := by simp only [List.length_cons, List.length_nil] at hi; omega
  exact h1
theorem ins2 {b : Bool} {lims : Lims} {fs : List Int} {w k l : Str} {x y : PyData} (hk : kindsOf b w = some [k, l]) (h1 : okOp lims fs (.str w) k x = true) (h2 : okOp lims fs x l y = true) : okIns b lims fs (.tuple [.str w, x, y]) = true := by
  show (match kindsOf b w with | some ks => _ | none => false) = true
  rw [hk]
  show (true && okOps lims fs [.str w, x, y] [k, l]) = true
  rw [Bool.true_and]
  refine okOps_yes fun i hi => ?_
  match i, hi with
  | 0, _ => exact h1
  | 1, _ => exact h2
  | i + 2, hi => simp only [List.length_cons, List.length_nil] at hi; omega
theorem ins3 {b : Bool} {lims : Lims} {fs : List Int} {w k l m : Str} {x y z : PyData} (hk : kindsOf b w = some [k, l, m]) (h1 : okOp lims fs (.str w) k x = true) (h2 : okOp lims fs x l y = true) (h3 : okOp lims fs y m z = true) :
    okIns b lims fs (.tuple [.str w, x, y, z]) = true := by
  show (match kindsOf b w with | some ks => _ | none => false) = true
  rw [hk]
  show (true && okOps lims fs [.str w, x, y, z] [k, l, m]) = true
  rw [Bool.true_and]
  refine okOps_yes fun i hi => ?_
  match i, hi with
  | 0, _ => exact h1
  | 1, _ => exact h2
  | 2, _ => exact h3
  | i + 3, hi => simp only [List.length_cons, List.length_nil] at hi; omega
theorem op_lim {lims : Lims} {fs : List Int} {prev : PyData} {k : Str} {i lo hi : Int} (hf : k ≠ "field") (hl : lims.lookup k = some (lo, hi)) (h0 : lo ≤ i) (h1 : i ≤ hi) : okOp lims fs prev k (.int i) = true := by
  unfold okOp
  rw [if_neg hf, hl]
  exact isIn_of h0 h1
theorem op_field {lims : Lims} {fs : List Int} {u i : Int} (h0 : 0 ≤ i) (h1 : i < fs.getD u.toNat 0) : okOp lims fs (.int u) "field" (.int i) = true := by
  unfold okOp
  rw [if_pos rfl]
  exact isIn_of h0 (by omega)
theorem op_slot {n : Nat} {fs : List Int} {prev : PyData} {i : Int} (h0 : 0 ≤ i) (h1 : i < 3) : okOp (limsI n) fs prev "slot" (.int i) = true := op_lim (by decide) (lo := 0) (hi := 2) rfl h0 (by omega)
theorem op_num {n : Nat} {fs : List Int} {prev : PyData} {i : Int} (h0 : 0 ≤ i) (h1 : i ≤ 65535) : okOp (limsI n) fs prev "number" (.int i) = true := op_lim (by decide) (lo := 0) (hi := 65535) rfl h0 h1
theorem op_unit {n : Nat} {fs : List Int} {prev : PyData} {i : Int} (h0 : 0 ≤ i) (h1 : i < (n : Int)) : okOp (limsI n) fs prev "unit" (.int i) = true := op_lim (by decide) (lo := 0) (hi := (n : Int) - 1) rfl h0 (by omega)
theorem ok_straight (T : TDraw K mg) : Ok P w K mg base CX0 4 "_law_w_straight" ["pen", "fields", "often"] spStr := by
  have G__law_take : Ok P w K mg base CX0 2 "_law_take" ["pen", "many"] spTake := ok_take T.toTPen
  have G__law_w_pick : Ok P w K mg base CX0 3 "_law_w_pick" ["pen", "some"] spPick := ok_pick T
  refine T.d_straight.ok sc__law_w_straight bi__law_w_straight (fun vs H Q E h => ?_) (fun cdv A outer s H f vs Q E hr h => ?_)
  · obtain ⟨p, l, n, B, fs, rfl, _⟩ := h
    rfl
  · obtain ⟨p, l, n, B, fs, rfl, hp, hB, n0, n1, hf, q⟩ := h
    refine ⟨_, (pss_cons (ps_par3 (i := 3) (j := 4) (l := 5) (by rfl) sc__law_w_straight.nd rfl rfl rfl (by decide) (by decide) (by decide) rfl rfl rfl (pa_cons (pe_callO G__law_take (hr.mono (by decide)) (pa_cons (pv 0) (pa_cons pe_int pa_nil))) (pa_cons (pe_callO G__law_take (hr.mono (by decide)) (pa_cons (pv 0) (pa_cons pe_int pa_nil))) (pa_cons (pe_callO G__law_take (hr.mono (by decide)) (pa_cons (pv 0) (pa_cons pe_int pa_nil))) pa_nil))) (by rfl))
    (pss_cons (ps_if (PW.pt (pw_and (pt_cmpR op_eq (pv 5) pe_int (nomark _)) (pw_and1 (pt_cmpR op_eq (pe_callO G__law_take (hr.mono (by decide)) (pa_cons (pv 0) (pa_cons (pv 2) pa_nil))) pe_int (nomark _))))) (pss_one (ps_ret (pe_tup (pa_cons pe_str pa_nil)))) pss_nil)
    (pss_cons (ps_if (PW.pt (pw_or (pt_cmpR op_lt (pv 5) pe_int (nomark _)) (pw_or1 (pt_cmpR (op_eqD (hu64 hr)) (pv 1) (pe_lst pa_nil) (nomark _))))) (pss_cons (ps_set (i := 6) sc__law_w_straight.nd rfl (Or.inl rfl) (pe_lst (pa_cons (pe_tup (pa_cons pe_str (pa_cons (pv 3) (pa_cons (pe_callO G__law_take (hr.mono (by decide)) (pa_cons (pv 0) (pa_cons pe_int pa_nil))) pa_nil)))) (pa_cons (pe_tup (pa_cons pe_str (pa_cons (pv 3) (pa_cons (pv 4) pa_nil)))) (pa_cons (pe_tup (pa_cons pe_str (pa_cons (pv 3) (pa_cons (pe_op op_sub pe_int (pe_callO G__law_take (hr.mono (by decide)) (pa_cons (pv 0) (pa_cons pe_int pa_nil)))) pa_nil)))) pa_nil)))))
    (pss_one (ps_ret (pe_callO G__law_w_pick (hr.mono (by decide)) (pa_cons (pv 0) (pa_cons (pv 6) pa_nil)))))) pss_nil)
    (pss_cons (ps_asg (pe_callO G__law_w_pick (hr.mono (by decide)) (pa_cons (pv 0) (pa_cons (pv 1) pa_nil))) (pg_tup rfl (pgs_cons (pg_name (i := 7) sc__law_w_straight.nd rfl (Or.inl rfl)) (pgs_cons (pg_name (i := 8) sc__law_w_straight.nd rfl (Or.inl rfl)) pgs_nil))))
    (pss_one (ps_ret (pe_ifExp (pt_cmpR op_lt (pv 5) pe_int (nomark _)) (pe_tup (pa_cons pe_str (pa_cons (pv 3) (pa_cons (pv 7) (pa_cons (pv 8) pa_nil))))) (pe_tup (pa_cons pe_str (pa_cons (pv 7) (pa_cons (pv 8) (pa_cons (pv 3) pa_nil)))))))))))), ?_⟩
    refine ⟨_, rfl, p, 3, B, rfl, hp, by omega, by decide, by decide, fun H1 zs s1 p1 zs0 zs1 => ?_⟩
    have c1 := (PAt.refl hp).take s1 p1
    refine ⟨_, rfl, p, 3, _, rfl, c1.pen, by omega, by decide, by decide, fun H2 zt s2 p2 zt0 zt1 => ?_⟩
    have c2 := c1.take s2 p2
    refine ⟨_, rfl, p, 12, _, rfl, c2.pen, by omega, by decide, by decide, fun H3 way s3 p3 wy0 wy1 => ?_⟩
    have c3 := c2.take s3 p3
    refine ⟨_, _, _, rfl, ?_⟩
    show tSeq _ _ _ _ _
    -- a fail, or on: at most one read more
    have next : ∀ (H4 : Hp), PAt p (B + 4) H H4 → ∀ D : Ends, D.rt = Q → tSeq (tIfS
          (tOr (tTest (tOp (rI0 fun i j => V.bl (decide (i < j))) (tVar 5) (tC (.int 4)))) (tTest (tOp (rEqD K) (tVar 1) (tLst tNil))))
          (tSeq (tAsg (tLst (tCons (tTup (tCons (tC (.str "number")) (tCons (tVar 3) (tCons (tCall spTake [] E0 (tCons (tVar 0) (tCons (tC (.int 9)) tNil))) tNil))))
            (tCons (tTup (tCons (tC (.str "copy")) (tCons (tVar 3) (tCons (tVar 4) tNil))))
            (tCons (tTup (tCons (tC (.str "add")) (tCons (tVar 3) (tCons (tOp (rI0 fun i j => V.int (i - j)) (tC (.int 65535)) (tCall spTake [] E0 (tCons (tVar 0) (tCons (tC (.int 3)) tNil)))) tNil)))) tNil)))) (gName 6))
            (tRet (tCall spPick [] E0 (tCons (tVar 0) (tCons (tVar 6) tNil))))) tNext)
        (tSeq (tAsg (tCall spPick [] E0 (tCons (tVar 0) (tCons (tVar 1) tNil))) (gTup K 2 (gCons (gName 7) (gCons (gName 8) gNil))))
          (tRet (tIf (tTest (tOp (rI0 fun i j => V.bl (decide (i < j))) (tVar 5) (tC (.int 9))))
            (tTup (tCons (tC (.str "read")) (tCons (tVar 3) (tCons (tVar 7) (tCons (tVar 8) tNil)))))
            (tTup (tCons (tC (.str "write")) (tCons (tVar 7) (tCons (tVar 8) (tCons (tVar 3) tNil)))))))) D [some (.ref p), some (.ref l), some (.int n), some (.int zs), some (.int zt), some (.int way), none, none, none] H4 := by
      intro H4 c4 D hD
      have hf4 := hf.ex c4.ex
      obtain ⟨xs, us, hl, hda, hln, hus⟩ := hf4
      -- either way
      have first : ∀ H5, PAt p (B + 4) H H5 → ∀ D : Ends, D.rt = Q → tSeq (tAsg (tLst (tCons (tTup (tCons (tC (.str "number")) (tCons (tVar 3) (tCons (tCall spTake [] E0 (tCons (tVar 0) (tCons (tC (.int 9)) tNil))) tNil))))
            (tCons (tTup (tCons (tC (.str "copy")) (tCons (tVar 3) (tCons (tVar 4) tNil))))
            (tCons (tTup (tCons (tC (.str "add")) (tCons (tVar 3) (tCons (tOp (rI0 fun i j => V.int (i - j)) (tC (.int 65535)) (tCall spTake [] E0 (tCons (tVar 0) (tCons (tC (.int 3)) tNil)))) tNil)))) tNil)))) (gName 6))
            (tRet (tCall spPick [] E0 (tCons (tVar 0) (tCons (tVar 6) tNil)))) D [some (.ref p), some (.ref l), some (.int n), some (.int zs), some (.int zt), some (.int way), none, none, none] H5 := by
        intro H5 c5 D hD
        refine ⟨_, rfl, _, rfl, p, 9, _, rfl, c5.pen, by omega, by decide, by decide, fun H6 z6 s6 p6 z60 z61 => ?_⟩
        have c6 := c5.take s6 p6
        refine ⟨sz_of (by show 3 ≤ 100000; decide), fun a1 n1 => ?_⟩
        have d1 := da_tupN (ds := [.str "number", .int zs, .int z6]) c6.pen n1 (.cons (.str _) (.cons (.int zs) (.cons (.int z6) .nil)))
        have c7 := c6.new n1 (o := .tup [V.str "number", .int zs, .int z6])
        refine ⟨_, rfl, _, rfl, sz_of (by show 3 ≤ 100000; decide), fun a2 n2 => ?_⟩
        have d2 := da_tupN (ds := [.str "copy", .int zs, .int zt]) c7.pen n2 (.cons (.str _) (.cons (.int zs) (.cons (.int zt) .nil)))
        have e2 := da_new (o := .tup [V.str "copy", .int zs, .int zt]) d1 n2
        have c8 := c7.new n2 (o := .tup [V.str "copy", .int zs, .int zt])
        refine ⟨_, rfl, _, rfl, p, 3, _, rfl, c8.pen, by omega, by decide, by decide, fun H9 z9 s9 p9 z90 z91 => ?_⟩
        have c9 := c8.take s9 p9
        refine ⟨65535, z9, rfl, rfl, sz_of (by show 3 ≤ 100000; decide), fun a3 n3 => ?_⟩
        have d3 := da_tupN (ds := [.str "add", .int zs, .int (65535 - z9)]) c9.pen n3 (.cons (.str _) (.cons (.int zs) (.cons (.int _) .nil)))
        have c10 := c9.new n3 (o := .tup [V.str "add", .int zs, .int (65535 - z9)])
        have e3 := da_new (o := .tup [V.str "add", .int zs, .int (65535 - z9)]) (e2.ex s9) n3
        have f3 := da_new (o := .tup [V.str "add", .int zs, .int (65535 - z9)]) (d2.ex s9) n3
        refine ⟨sz_of (by show 3 ≤ 100000; decide), fun l6 n6 => ?_⟩
        have c11 := c10.new n6 (o := .lst [V.ref a1, .ref a2, .ref a3])
        refine ⟨_, rfl, _, rfl, p, l6, [V.ref a1, .ref a2, .ref a3], _, rfl, c11.pen, by omega, off_of upd_same (c10.pen.ne n6), (by show 0 < 3; decide), (by show 3 < 1000000; decide), fun H' x s' p' hx => ?_⟩
        have c12 := (c11.take s' p').mono (B' := B + 8) (by omega)
        rw [hD]
        simp only [List.mem_cons, List.not_mem_nil, or_false] at hx
        rcases hx with rfl | rfl | rfl
        · exact q H' _ _ c12 ((da_new e3 n6).ex s') rfl (ins2 rfl (op_slot zs0 zs1) (op_num z60 (by omega)))
        · exact q H' _ _ c12 ((da_new f3 n6).ex s') rfl (ins2 rfl (op_slot zs0 zs1) (op_slot zt0 zt1))
        · exact q H' _ _ c12 ((da_new d3 n6).ex s') rfl (ins2 rfl (op_slot zs0 zs1) (op_num (by omega) (by omega)))
      refine ⟨_, rfl, way, 4, rfl, rfl, _, rfl, ite2 (fun _ => first H4 c4 D hD) (fun _ => ?_)⟩
      refine ⟨_, rfl, sz_of (by show 0 ≤ 100000; decide), fun l0 n0 => ?_⟩
      have c5 := c4.new n0 (o := .lst [])
      have hl' := off_sub _ _ (off_mono (same_new n0 (o := .lst [])) _ _ hl)
      refine ⟨.list (us.map dpT), .list [], .lst (.inl (.inl hl')) (DaAll.dp (zs_no us) (hda.ex fun b o e => off_sub _ _ (off_mono (same_new n0) b o e))), .lst (.inl (.inl upd_same)) .nil, zs_shaped us, zs_shaped [], _, rfl, ite2 (fun _ => first _ c5 D hD) (fun hne => ?_)⟩
      -- one of the fields
      have hpos : 0 < xs.length := by
        rw [hda.len]
        cases us with
        | nil => exact absurd rfl hne
        | cons z r => exact Nat.succ_pos _
      have hl5 := off_mono (same_new n0 (o := .lst [])) _ _ hl
      refine ⟨_, rfl, _, rfl, p, l, xs, _, rfl, c5.pen, by omega, hl5, hpos, by rw [hda.len, List.length_map]; omega, fun H6 x s6 p6 hx => ?_⟩
      have c6 := c5.take s6 p6
      obtain ⟨i, hi⟩ := List.getElem?_of_mem hx
      obtain ⟨d, hd, dd⟩ := hda.at hi
      rw [List.getElem?_map] at hd
      obtain ⟨z, hz, rfl⟩ := Option.map_eq_some_iff.mp hd
      obtain ⟨u0, u1, v0, v1⟩ := hus z (List.mem_of_getElem? hz)
      have dd6 : Da (off H6 p) x (.tuple [.int z.1, .int z.2]) := dd.ex ((off_mono (same_new n0)).trans s6)
      cases dd6 with
      | @tup t ys _ ht hys =>
      cases hys with
      | @cons w1 r1 _ _ g1 hys =>
      cases hys with
      | @cons w2 r2 _ _ g2 hys =>
      cases hys
      cases g1
      cases g2
      refine ⟨t, _, rfl, st_ofD (off_sub _ _ ht), rfl, _, _, rfl, _, _, rfl, rfl, ?_⟩
      refine ⟨_, rfl, way, 9, rfl, rfl, _, rfl, ite2 (fun _ => ?_) (fun _ => ?_)⟩
      · refine ⟨_, rfl, _, rfl, _, rfl, sz_of (by show 4 ≤ 100000; decide), fun a n => ?_⟩
        rw [hD]
        exact q _ _ _ ((c6.new n).mono (by omega)) (da_tupN (ds := [.str "read", .int zs, .int z.1, .int z.2]) c6.pen n (.cons (.str _) (.cons (.int zs) (.cons (.int _) (.cons (.int _) .nil))))) rfl
          (ins3 rfl (op_slot zs0 zs1) (op_unit u0 (by omega)) (op_field v0 v1))
      · refine ⟨_, rfl, _, rfl, _, rfl, sz_of (by show 4 ≤ 100000; decide), fun a n => ?_⟩
        rw [hD]
        exact q _ _ _ ((c6.new n).mono (by omega)) (da_tupN (ds := [.str "write", .int z.1, .int z.2, .int zs]) c6.pen n (.cons (.str _) (.cons (.int _) (.cons (.int _) (.cons (.int zs) .nil))))) rfl
          (ins3 rfl (op_unit u0 (by omega)) (op_field v0 v1) (op_slot zs0 zs1))
    refine ⟨_, rfl, rfl, _, rfl, ite2 (fun _ => ?_) (fun _ => next H3 (c3.mono (by omega)) _ rfl)⟩
    refine ⟨_, rfl, _, rfl, p, n, _, rfl, c3.pen, by omega, n0, by omega, fun H4 r s4 p4 r0 r1 => ?_⟩
    have c4 := c3.take s4 p4
    refine ⟨rfl, _, rfl, ite2 (fun _ => ?_) (fun _ => next H4 c4 _ rfl)⟩
    refine ⟨sz_of (by show 1 ≤ 100000; decide), fun a n => ?_⟩
    exact q _ _ _ ((c4.new n).mono (by omega)) (da_tupN (ds := [.str "fail"]) c4.pen n (.cons (.str _) .nil)) rfl (by rfl)
/-! #### a row of a function -/
theorem look_app {l m : Lims} {k : Str} {x : Int × Int} (h : l.lookup k = some x) : (l ++ m).lookup k = some x := by
  induction l with
  | nil => cases h
  | cons e r ih =>
    obtain ⟨a, b⟩ := e
    rw [List.cons_append]
    simp only [List.lookup] at h ⊢
    cases c : k == a with
    | true =>
      rw [c] at h
      exact h
    | false =>
      rw [c] at h
      exact ih h
theorem limsF_of {n size : Nat} {own nf place : Int} {k : Str} {x : Int × Int} (h : (limsI n).lookup k = some x) : (limsF n size own nf place).lookup k = some x := look_app (look_app (look_app h))
theorem kinds_up {w : Str} {ks : List Str} (h : kindsOf false w = some ks) : kindsOf true w = some ks := by
  unfold kindsOf at h ⊢
  split at h
  · rename_i c
    rw [if_pos c]
    exact h
  · rw [Bool.false_and] at h
    rw [if_neg (by decide)] at h
    cases h
theorem okOp_up {n size : Nat} {own nf place : Int} {fs : List Int} {prev : PyData} {k : Str} {x : PyData} (h : okOp (limsI n) fs prev k x = true) : okOp (limsF n size own nf place) fs prev k x = true := by
  unfold okOp at h ⊢
  by_cases c : k = "field"
  · rw [if_pos c] at h ⊢
    exact h
  · rw [if_neg c] at h ⊢
    cases e : (limsI n).lookup k with
    | none =>
      rw [e] at h
      cases h
    | some y =>
      rw [e] at h
      rw [limsF_of e]
      exact h
theorem okIns_up {n size : Nat} {own nf place : Int} {fs : List Int} {d : PyData} (h : okIns false (limsI n) fs d = true) : okIns true (limsF n size own nf place) fs d = true := by
  unfold okIns at h ⊢
  split at h
  · rename_i w r
    cases e : kindsOf false w with
    | none =>
      rw [e] at h
      cases h
    | some ks =>
      rw [e] at h
      dsimp only at h ⊢
      rw [kinds_up e]
      dsimp only
      rw [Bool.and_eq_true] at h ⊢
      refine ⟨h.1, ?_⟩
      have h2 := h.2
      unfold okOps at h2
      rw [List.all_eq_true] at h2
      exact okOps_yes fun i hi => okOp_up (h2 i (List.mem_range.mpr hi))
  · cases h
def spLine : Sp := fun vs H Q _ => ∃ (p l wh hd : Addr) (B many : Nat) (fs : List Int) (number place nf : Int), vs = [.ref p, .ref l, .ref wh, .ref hd] ∧ Pen H p B ∧ B ≤ 800000000 ∧ FieldsOk (off H p) l fs ∧
  off H p wh = some (.tup [.int number, .int place, .int many]) ∧ off H p hd = some (.tup [.int (fs.length : Nat), .int nf]) ∧ 0 < fs.length ∧ fs.length ≤ 1000 ∧ 0 ≤ number ∧ number < nf ∧ nf ≤ 1000 ∧ 0 ≤ place ∧ place < (many : Int) ∧ many ≤ 1000 ∧
  ∀ H' v d, PAt p (B + 12) H H' → Da (off H' p) v d → noL d = true → okIns true (limsF fs.length many number nf place) fs d = true → Q v H'
theorem ok_line (T : TDraw K mg) : Ok P w K mg base CX0 5 "_law_w_line" ["pen", "fields", "where", "heads"] spLine := by
  have G__law_take : Ok P w K mg base CX0 2 "_law_take" ["pen", "many"] spTake := ok_take T.toTPen
  have G__law_w_pick : Ok P w K mg base CX0 3 "_law_w_pick" ["pen", "some"] spPick := ok_pick T
  have G__law_w_straight : Ok P w K mg base CX0 4 "_law_w_straight" ["pen", "fields", "often"] spStr := ok_straight T
  refine T.d_line.ok sc__law_w_line bi__law_w_line (fun vs H Q E h => ?_) (fun cdv A outer s H f vs Q E hr h => ?_)
  · obtain ⟨p, l, wh, hd, B, many, fs, number, place, nf, rfl, _⟩ := h
    rfl
  · obtain ⟨p, l, wh, hd, B, many, fs, number, place, nf, rfl, hp, hB, hf, hwh, hhd, fl0, fl1, nb0, nb1, nf1, pl0, pl1, mn1, q⟩ := h
    refine ⟨_, (pss_cons (ps_asg (pv 2) (pg_tup rfl (pgs_cons (pg_name (i := 4) sc__law_w_line.nd rfl (Or.inl rfl)) (pgs_cons (pg_name (i := 5) sc__law_w_line.nd rfl (Or.inl rfl)) (pgs_cons (pg_name (i := 6) sc__law_w_line.nd rfl (Or.inl rfl)) pgs_nil)))))
    (pss_cons (ps_set (i := 7) sc__law_w_line.nd rfl (Or.inl rfl) (pe_callO G__law_take (hr.mono (by decide)) (pa_cons (pv 0) (pa_cons pe_int pa_nil))))
    (pss_cons (ps_if (pt_cmpR op_lt (pv 7) pe_int (nomark _)) (pss_one (ps_ret (pe_callO G__law_w_pick (hr.mono (by decide)) (pa_cons (pv 0) (pa_cons (pe_lst (pa_cons (pe_tup (pa_cons pe_str (pa_cons (pe_callO G__law_take (hr.mono (by decide)) (pa_cons (pv 0) (pa_cons pe_int pa_nil))) pa_nil))) (pa_cons (pe_tup (pa_cons pe_str (pa_cons (pe_callO G__law_take (hr.mono (by decide)) (pa_cons (pv 0) (pa_cons pe_int pa_nil))) pa_nil))) (pa_cons (pe_tup (pa_cons pe_str (pa_cons (pe_op op_add (pv 5) pe_int) pa_nil))) pa_nil)))) pa_nil))))) pss_nil)
    (pss_cons (ps_if (pt_cmpR op_eq (pv 7) pe_int (nomark _)) (pss_one (ps_ret (pe_tup (pa_cons pe_str (pa_cons (pe_callO G__law_take (hr.mono (by decide)) (pa_cons (pv 0) (pa_cons (pe_op op_add (pv 6) pe_int) pa_nil))) pa_nil))))) pss_nil)
    (pss_cons (ps_if (PW.pt (pw_and (pt_cmpR op_eq (pv 7) pe_int (nomark _)) (pw_and1 (pt_cmpR op_lt (pe_op op_add (pv 4) pe_int) (pe_ix ix_tup (pv 3) pe_int (fun _ _ => rfl)) (nomark _))))) (pss_one (ps_ret (pe_tup (pa_cons pe_str (pa_cons (pe_op op_add (pe_op op_add (pv 4) pe_int) (pe_callO G__law_take (hr.mono (by decide)) (pa_cons (pv 0) (pa_cons (pe_op op_sub (pe_op op_sub (pe_ix ix_tup (pv 3) pe_int (fun _ _ => rfl)) (pv 4)) pe_int) pa_nil)))) pa_nil))))) pss_nil)
    (pss_cons (ps_if (pt_cmpR op_eq (pv 7) pe_int (nomark _)) (pss_one (ps_ret (pe_tup (pa_cons pe_str (pa_cons (pe_callO G__law_take (hr.mono (by decide)) (pa_cons (pv 0) (pa_cons (pe_ix ix_tup (pv 3) pe_int (fun _ _ => rfl)) pa_nil))) (pa_cons (pe_op op_add (pe_op op_add (pv 5) pe_int) (pe_callO G__law_take (hr.mono (by decide)) (pa_cons (pv 0) (pa_cons (pe_op op_sub (pv 6) (pv 5)) pa_nil)))) pa_nil)))))) pss_nil)
    (pss_one (ps_ret (pe_callO G__law_w_straight (hr.mono (by decide)) (pa_cons (pv 0) (pa_cons (pv 1) (pa_cons pe_int pa_nil)))))))))))), ?_⟩
    refine ⟨_, rfl, wh, _, rfl, st_ofD (off_sub _ _ hwh), rfl, _, _, rfl, _, _, rfl, _, _, rfl, rfl, ?_⟩
    refine ⟨_, rfl, p, 12, B, rfl, hp, by omega, by decide, by decide, fun H1 way s1 p1 wy0 wy1 => ?_⟩
    have c1 := (PAt.refl hp).take s1 p1
    refine ⟨_, rfl, way, 3, rfl, rfl, _, rfl, ite2 (fun _ => ?_) (fun _ => ?_)⟩
    · -- one of three
      refine ⟨_, rfl, _, rfl, p, 3, _, rfl, c1.pen, by omega, by decide, by decide, fun H2 z2 s2 p2 z20 z21 => ?_⟩
      have c2 := c1.take s2 p2
      refine ⟨sz_of (by show 2 ≤ 100000; decide), fun a1 n1 => ?_⟩
      have d1 := da_tupN (ds := [.str "input", .int z2]) c2.pen n1 (.cons (.str _) (.cons (.int _) .nil))
      have c3 := c2.new n1 (o := .tup [V.str "input", .int z2])
      refine ⟨_, rfl, p, 3, _, rfl, c3.pen, by omega, by decide, by decide, fun H4 z4 s4 p4 z40 z41 => ?_⟩
      have c4 := c3.take s4 p4
      refine ⟨sz_of (by show 2 ≤ 100000; decide), fun a2 n2 => ?_⟩
      have d2 := da_tupN (ds := [.str "show", .int z4]) c4.pen n2 (.cons (.str _) (.cons (.int _) .nil))
      have e2 := da_new (o := .tup [V.str "show", .int z4]) (d1.ex s4) n2
      have c5 := c4.new n2 (o := .tup [V.str "show", .int z4])
      refine ⟨_, rfl, place, 1, rfl, rfl, sz_of (by show 2 ≤ 100000; decide), fun a3 n3 => ?_⟩
      have d3 := da_tupN (ds := [.str "branch", .int (place + 1)]) c5.pen n3 (.cons (.str _) (.cons (.int _) .nil))
      have e3 := da_new (o := .tup [V.str "branch", .int (place + 1)]) e2 n3
      have f3 := da_new (o := .tup [V.str "branch", .int (place + 1)]) d2 n3
      have c6 := c5.new n3 (o := .tup [V.str "branch", .int (place + 1)])
      refine ⟨sz_of (by show 3 ≤ 100000; decide), fun l6 n6 => ?_⟩
      have c7 := c6.new n6 (o := .lst [V.ref a1, .ref a2, .ref a3])
      refine ⟨p, l6, [V.ref a1, .ref a2, .ref a3], _, rfl, c7.pen, by omega, off_of upd_same (c6.pen.ne n6), (by show 0 < 3; decide), (by show 3 < 1000000; decide), fun H' x s' p' hx => ?_⟩
      have c8 := (c7.take s' p').mono (B' := B + 12) (by omega)
      simp only [List.mem_cons, List.not_mem_nil, or_false] at hx
      rcases hx with rfl | rfl | rfl
      · exact q H' _ _ c8 ((da_new e3 n6).ex s') rfl (ins1 rfl (okOp_up (op_slot z20 z21)))
      · exact q H' _ _ c8 ((da_new f3 n6).ex s') rfl (ins1 rfl (okOp_up (op_slot z40 z41)))
      · exact q H' _ _ c8 ((da_new d3 n6).ex s') rfl (ins1 rfl (op_lim (by decide) (lo := 0) (hi := (many : Int)) rfl (by omega) (by omega)))
    refine ⟨_, rfl, rfl, _, rfl, ite2 (fun _ => ?_) (fun _ => ?_)⟩
    · refine ⟨_, rfl, _, rfl, (many : Int), 1, rfl, rfl, p, _, _, rfl, c1.pen, by omega, by omega, by omega, fun H2 z2 s2 p2 z20 z21 => ?_⟩
      have c2 := c1.take s2 p2
      refine ⟨sz_of (by show 2 ≤ 100000; decide), fun a1 n1 => ?_⟩
      exact q _ _ _ ((c2.new n1).mono (by omega)) (da_tupN (ds := [.str "branch", .int z2]) c2.pen n1 (.cons (.str _) (.cons (.int _) .nil))) rfl (ins1 rfl (op_lim (by decide) (lo := 0) (hi := (many : Int)) rfl z20 (by omega)))
    -- behind the call: a wake, or a straight one
    have rest : ∀ D : Ends, D.rt = Q → tSeq (tIfS (tTest (tOp rEq (tVar 7) (tC (.int 5)))) (tRet (tTup (tCons (tC (.str "wake")) (tCons (tCall spTake [] E0 (tCons (tVar 0) (tCons (tOp (rIxT K) (tVar 3) (tC (.int 0))) tNil)))
        (tCons (tOp (rI0 fun i j => V.int (i + j)) (tOp (rI0 fun i j => V.int (i + j)) (tVar 5) (tC (.int 1))) (tCall spTake [] E0 (tCons (tVar 0) (tCons (tOp (rI0 fun i j => V.int (i - j)) (tVar 6) (tVar 5)) tNil)))) tNil))))) tNext)
        (tRet (tCall spStr [] E0 (tCons (tVar 0) (tCons (tVar 1) (tCons (tC (.int 3)) tNil))))) D [some (.ref p), some (.ref l), some (.ref wh), some (.ref hd), some (.int number), some (.int place), some (.int (many : Nat)), some (.int way)] H1 := by
      intro D hD
      refine ⟨_, rfl, rfl, _, rfl, ite2 (fun _ => ?_) (fun _ => ?_)⟩
      · refine ⟨_, rfl, _, rfl, hd, _, 0, _, rfl, rfl, st_ofD (off_sub _ _ (c1.ex _ _ hhd)), rfl, p, _, _, rfl, c1.pen, by omega, by omega, by omega, fun H2 z2 s2 p2 z20 z21 => ?_⟩
        have c2 := c1.take s2 p2
        refine ⟨_, rfl, place, 1, rfl, rfl, _, rfl, _, rfl, _, rfl, (many : Int), place, rfl, rfl, p, _, _, rfl, c2.pen, by omega, by omega, by omega, fun H3 z3 s3 p3 z30 z31 => ?_⟩
        have c3 := c2.take s3 p3
        refine ⟨_, z3, rfl, rfl, sz_of (by show 3 ≤ 100000; decide), fun a1 n1 => ?_⟩
        rw [hD]
        exact q _ _ _ ((c3.new n1).mono (by omega)) (da_tupN (ds := [.str "wake", .int z2, .int (place + 1 + z3)]) c3.pen n1 (.cons (.str _) (.cons (.int _) (.cons (.int _) .nil)))) rfl
          (ins2 rfl (okOp_up (op_unit z20 z21)) (op_lim (by decide) (lo := place + 1) (hi := (many : Int)) rfl (by omega) (by omega)))
      · refine ⟨_, rfl, _, rfl, p, l, 3, _, fs, rfl, c1.pen, by omega, by decide, by decide, hf.ex c1.ex, fun H2 v d c2 dd nl ok => ?_⟩
        rw [hD]
        exact q _ _ _ ((c1.trans c2).mono (by omega)) dd nl (okIns_up ok)
    refine ⟨_, rfl, rfl, _, rfl, ite2 (fun _ => ?_) (fun _ => rest _ rfl)⟩
    refine ⟨_, rfl, number, 1, rfl, rfl, _, rfl, hd, _, 1, _, rfl, rfl, st_ofD (off_sub _ _ (c1.ex _ _ hhd)), rfl, _, nf, rfl, rfl, _, rfl, ite2 (fun hlt => ?_) (fun _ => rest _ rfl)⟩
    have hlt := of_decide_eq_true hlt
    refine ⟨_, rfl, number, 1, rfl, rfl, _, rfl, _, rfl, hd, _, 1, _, rfl, rfl, st_ofD (off_sub _ _ (c1.ex _ _ hhd)), rfl, _, rfl, nf, number, rfl, rfl, _, 1, rfl, rfl, p, _, _, rfl, c1.pen, by omega, by omega, by omega, fun H2 z2 s2 p2 z20 z21 => ?_⟩
    have c2 := c1.take s2 p2
    refine ⟨_, z2, rfl, rfl, sz_of (by show 2 ≤ 100000; decide), fun a1 n1 => ?_⟩
    exact q _ _ _ ((c2.new n1).mono (by omega)) (da_tupN (ds := [.str "call", .int (number + 1 + z2)]) c2.pen n1 (.cons (.str _) (.cons (.int _) .nil))) rfl
      (ins1 rfl (op_lim (by decide) (lo := number + 1) (hi := nf - 1) rfl (by omega) (by omega)))
/-! #### a program -/
theorem lcP {te : TE} {σ : L2.St} {vs : List Nat} {j : Nat} {Q : VK} {p : Addr} {B c n : Nat} {H1 : Hp} (Good : Hp → V → Prop) (hG : ∀ H H' v, ExT H H' → Good H v → Good H' v) (pen : Pen H1 p B) (hn : n ≤ 1000) (hw : ∀ x, wipe ((wipe σ vs).set j (some x)) vs = wipe σ vs)
    (he : ∀ (k : Nat) H2, k < n → PAt p (B + c * k) H1 H2 → ∀ Q' : VK, (∀ y H3, PAt p (B + c * (k + 1)) H2 H3 → Good H3 y → Q' y H3) → te ((wipe σ vs).set j (some (.int (k : Nat)))) H2 Q')
    (hd : ∀ D H2 ys, PAt p (B + c * n) H1 H2 → H1 D = none → H2 D = some (.lst ys) → ys.length = n → (∀ y ∈ ys, Good H2 y) → Q (.ref D) H2) : LcRest te σ vs j Q n H1 := by
  intro D hD
  refine lc_it (walk_range (lo := 0) (n := n)) (fun i H' => PAt p (B + c * i) H1 H' ∧ ∃ ys, H' D = some (.lst ys) ∧ ys.length = i ∧ ∀ y ∈ ys, Good H' y) ⟨(PAt.refl pen).new hD, [], upd_same, rfl, fun y hy => by cases hy⟩ (fun _ _ _ _ => trivial) ?_ ?_
  · rintro i x H' H'' hi ⟨c1, ys, h1, h2, h3⟩ ⟨rfl, rfl⟩
    refine ⟨hw _, ?_⟩
    show te ((wipe σ vs).set j (some (.int (0 + (i : Int))))) _ _
    rw [show (0 : Int) + (i : Int) = (i : Int) from Int.zero_add _]
    refine he i _ hi c1 _ fun y H3 c2 g => ?_
    have hD3 : H3 D = some (.lst ys) := off_sub _ _ (c2.ex _ _ (off_of h1 (pen.ne hD)))
    have eT := ExT.lst (o := .lst (ys ++ [y])) hD3
    have e2 := (c2.exT c1.pen).trans eT
    refine ⟨ys, hD3, sz_lt (by omega), (c1.trans c2).upd pen hD, ys ++ [y], upd_same, by rw [List.length_append, h2]; rfl, fun z hz => ?_⟩
    rw [List.mem_append, List.mem_singleton] at hz
    rcases hz with hz | rfl
    · exact hG _ _ _ e2 (h3 z hz)
    · exact hG _ _ _ eT g
  · rintro H' ⟨c1, ys, h1, h2, h3⟩
    exact hd D H' ys c1 hD h1 h2 h3
theorem ints_of {ys : List V} {lo hi : Int} (h : ∀ y ∈ ys, ∃ i, y = .int i ∧ lo ≤ i ∧ i ≤ hi) : ∃ cs : List Int, ys = cs.map V.int ∧ ∀ i ∈ cs, lo ≤ i ∧ i ≤ hi := by
  induction ys with
  | nil => exact ⟨[], rfl, fun i hi => by cases hi⟩
  | cons y r ih =>
    obtain ⟨cs, rfl, hc⟩ := ih fun z hz => h z (List.mem_cons_of_mem _ hz)
    obtain ⟨i, rfl, h0, h1⟩ := h y List.mem_cons_self
    refine ⟨i :: cs, rfl, fun k hk => ?_⟩
    rcases List.mem_cons.mp hk with rfl | hk
    · exact ⟨h0, h1⟩
    · exact hc k hk
theorem das_of {H : Hp} {ys : List V} {G : PyData → Prop} (h : ∀ y ∈ ys, ∃ d, Da H y d ∧ G d) : ∃ ds, DaAll H ys ds ∧ ∀ d ∈ ds, G d := by
  induction ys with
  | nil => exact ⟨[], .nil, fun i hi => by cases hi⟩
  | cons y r ih =>
    obtain ⟨ds, h1, hc⟩ := ih fun z hz => h z (List.mem_cons_of_mem _ hz)
    obtain ⟨d, h0, g⟩ := h y List.mem_cons_self
    refine ⟨d :: ds, .cons h0 h1, fun k hk => ?_⟩
    rcases List.mem_cons.mp hk with rfl | hk
    · exact g
    · exact hc k hk
/-- fields drawn so far -/
def FieldsA (H : Hp) (l : Addr) (fs : List Int) (i : Nat) : Prop := ∃ (xs : List V) (zs : List (Int × Int)), H l = some (.lst xs) ∧ DaAll H xs (zs.map dpT) ∧ zs.length ≤ 3 * i ∧ ∀ z ∈ zs, 0 ≤ z.1 ∧ z.1.toNat < fs.length ∧ 0 ≤ z.2 ∧ z.2 < fs.getD z.1.toNat 0
def UnitOk (fs : List Int) (k : Nat) (d : PyData) : Prop := okUnit (k : Nat) d = true ∧ okInit fs (bodyD d) = true ∧ fs[k]? = some (fieldsD d) ∧ noL d = true
def FunOk (fs : List Int) (nf : Nat) (k : Nat) (d : PyData) : Prop := okFun (fs.length : Nat) d = true ∧ okCode (k : Nat) (nf : Nat) fs (bodyD d) = true ∧ noL d = true
def HeadOk (nu : Nat) (H : Hp) (y : V) : Prop := ∃ (t : Addr) (u m : Int), y = .ref t ∧ H t = some (.tup [.int u, .int m]) ∧ 0 ≤ u ∧ u < (nu : Int) ∧ 1 ≤ m ∧ m ≤ 8
theorem zs_noL (zs : List (Int × Int)) : noLAll (zs.map dpT) = true := noLAll_of fun d hd => by
  obtain ⟨z, _, rfl⟩ := List.mem_map.mp hd
  rfl
theorem FieldsA.exT {H H' : Hp} {l : Addr} {fs : List Int} {i : Nat} (h : FieldsA H l fs i) (e : ExT H H') (el : ∀ xs, H l = some (.lst xs) → H' l = some (.lst xs)) : FieldsA H' l fs i := by
  obtain ⟨xs, zs, h1, h2, h3⟩ := h
  exact ⟨xs, zs, el _ h1, h2.exT e (zs_noL zs), h3⟩
theorem FieldsA.ok {H : Hp} {p l : Addr} {fs : List Int} {i B : Nat} (h : FieldsA H l fs i) (pen : Pen H p B) (hl : l ≠ p) (hi : i ≤ 100) : FieldsOk (off H p) l fs := by
  obtain ⟨xs, zs, h1, h2, h3, h4⟩ := h
  exact ⟨xs, zs, off_of h1 hl, h2.exT (ExT.off pen) (zs_noL zs), by omega, h4⟩
theorem zs_of {H : Hp} {ys : List V} {i z : Int} (h : ∀ y ∈ ys, ∃ f, Da H y (dpT (i, f)) ∧ 0 ≤ f ∧ f < z) : ∃ zs : List (Int × Int), DaAll H ys (zs.map dpT) ∧ zs.length = ys.length ∧ ∀ w ∈ zs, w.1 = i ∧ 0 ≤ w.2 ∧ w.2 < z := by
  induction ys with
  | nil => exact ⟨[], .nil, rfl, fun i hi => by cases hi⟩
  | cons y r ih =>
    obtain ⟨zs, h1, h2, hc⟩ := ih fun z hz => h z (List.mem_cons_of_mem _ hz)
    obtain ⟨f, h0, g⟩ := h y List.mem_cons_self
    refine ⟨(i, f) :: zs, .cons h0 h1, by rw [List.length_cons, List.length_cons, h2], fun k hk => ?_⟩
    rcases List.mem_cons.mp hk with rfl | hk
    · exact ⟨rfl, g⟩
    · exact hc k hk
theorem at_snoc {α : Type} {G : Nat → α → Prop} {ds : List α} {d : α} (h : ∀ k e, ds[k]? = some e → G k e) (hd : G ds.length d) : ∀ k e, (ds ++ [d])[k]? = some e → G k e := by
  intro k e he
  rcases Nat.lt_trichotomy k ds.length with q | q | q
  · rw [List.getElem?_append_left q] at he
    exact h k e he
  · subst q
    rw [List.getElem?_append_right (Nat.le_refl _), Nat.sub_self] at he
    cases he
    exact hd
  · rw [List.getElem?_append_right (by omega)] at he
    have : k - ds.length = (k - ds.length - 1) + 1 := by omega
    rw [this] at he
    cases he
theorem noLAll_app {ds es : List PyData} (h1 : noLAll ds = true) (h2 : noLAll es = true) : noLAll (ds ++ es) = true := by
  induction ds with
  | nil => exact h2
  | cons d r ih =>
    have h1' : (noL d && noLAll r) = true := h1
    rw [Bool.and_eq_true] at h1'
    show (noL d && noLAll (r ++ es)) = true
    rw [h1'.1, ih h1'.2]
    rfl
theorem PAt.lst {p D : Addr} {B : Nat} {H0 H : Hp} {xs : List V} (c : PAt p B H0 H) (h : H0 D = some (.lst xs)) (n : D ≠ p) : H D = some (.lst xs) := off_sub _ _ (c.ex _ _ (off_of h n))
/-- the parent of a unit drawn -/
theorem parentP {tz : TS} {D : Ends} {σ : L2.St} {H : Hp} {p : Addr} {B i : Nat} (pen : Pen H p B) (hB : B ≤ 900000000) (hi : i < 1000) (hu : σ[6]? = some (some (.int (i : Nat)))) (hp : σ[0]? = some (some (.ref p)))
    (go : ∀ H5 v d, PAt p (B + 2) H H5 → Da H5 v d → (isNonD d || isIn d 0 ((i : Int) - 1)) = true → noL d = true → tz D (σ.set 10 (some v)) H5) :
    tSeq (tAsg (tIf (tAnd (tTest (tOp (rI0 fun i j => V.bl (decide (j < i))) (tVar 6) (tC (.int 0)))) (tTest (tOp rEq (tCall spTake [] E0 (tCons (tVar 0) (tCons (tC (.int 3)) tNil))) (tC (.int 0))))) (tCall spTake [] E0 (tCons (tVar 0) (tCons (tVar 6) tNil))) (tC .non)) (gName 10)) tz D σ H := by
  refine ⟨_, hu, (i : Nat), 0, rfl, rfl, _, rfl, ite2 (fun h => ?_) (fun _ => go H .non .none ((PAt.refl pen).mono (by omega)) .non rfl rfl)⟩
  have h := of_decide_eq_true h
  refine ⟨_, hp, p, 3, B, rfl, pen, by omega, by decide, by decide, fun H4 r s4 p4 r0 r1 => ?_⟩
  have c4 := (PAt.refl pen).take s4 p4
  refine ⟨rfl, _, rfl, ite2 (fun _ => ?_) (fun _ => go H4 .non .none (c4.mono (by omega)) .non rfl rfl)⟩
  refine ⟨_, hp, _, hu, p, _, _, rfl, c4.pen, by omega, by omega, by omega, fun H5 r s5 p5 r0 r1 => ?_⟩
  refine go H5 (.int r) (.int r) (c4.take s5 p5) (.int r) ?_ rfl
  rw [isIn_of r0 (by omega), Bool.or_true]
def spDraw : Sp := fun vs H Q _ => ∃ (p : Addr) (B : Nat) (m n : Int), vs = [.ref p, .int m, .int n] ∧ Pen H p B ∧ B ≤ 1000000 ∧ 0 < m ∧ m ≤ 6 ∧ 0 < n ∧ n ≤ 8 ∧ ∀ H' v d, PAt p (B + 10000) H H' → Da H' v d → noL d = true → okProg d = true → Q v H'
theorem ok_prog (T : TDraw K mg) : Ok P w K mg base CX0 6 "_law_w_program" ["pen", "most", "longest_body"] spDraw := by
  have G__law_take : Ok P w K mg base CX0 2 "_law_take" ["pen", "many"] spTake := ok_take T.toTPen
  have G__law_w_pick : Ok P w K mg base CX0 3 "_law_w_pick" ["pen", "some"] spPick := ok_pick T
  have G__law_w_straight : Ok P w K mg base CX0 4 "_law_w_straight" ["pen", "fields", "often"] spStr := ok_straight T
  have G__law_w_line : Ok P w K mg base CX0 5 "_law_w_line" ["pen", "fields", "where", "heads"] spLine := ok_line T
  refine T.d_prog.ok sc__law_w_program bi__law_w_program (fun vs H Q E h => ?_) (fun cdv A outer s H f vs Q E hr h => ?_)
  · obtain ⟨p, B, m, n, rfl, _⟩ := h
    rfl
  · obtain ⟨p, B, m, n, rfl, hp, hB, m0, m1, n0, n1, q⟩ := h
    refine ⟨_, (pss_cons (ps_setLc (i := 3) (own := [("turn", 4)]) (g := gName 4) rfl sc__law_w_program.nd rfl rfl (sw_true rfl rfl rfl (by decide +kernel)) (pi_range1 (by rfl) T.b_range (pa_cons (pe_op op_add pe_int (pe_callO G__law_take (hr.mono (by decide)) (pa_cons (pv 0) (pa_cons (pv 1) pa_nil)))) pa_nil)) (blkOk_by (N := N__law_w_program) (sc := defScope s__law_w_program) (by decide +kernel)) (fun _ _ _ _ _ => (pg_name (i := 4) sc__law_w_program.nd rfl (Or.inl rfl))) (fun _ _ _ _ _ => pts_nil) (fun _ _ _ _ _ => (pe_callO G__law_w_pick (hr.mono (by decide)) (pa_cons (pv 0) (pa_cons (pe_lst (pa_cons pe_int (pa_cons pe_int (pa_cons pe_int (pa_cons pe_int (pa_cons pe_int pa_nil)))))) pa_nil)))))
    (pss_cons (ps_set (i := 5) sc__law_w_program.nd rfl (Or.inr rfl) (pe_lst pa_nil))
    (pss_cons (ps_for PassesOwn.never rfl (pi_enum (by rfl) T.b_enumerate (pa_cons (pv 3) pa_nil)) (pg_tup rfl (pgs_cons (pg_name (i := 6) sc__law_w_program.nd rfl (Or.inr rfl)) (pgs_cons (pg_name (i := 7) sc__law_w_program.nd rfl (Or.inl rfl)) pgs_nil))) (pss_one (ps_set (i := 5) sc__law_w_program.nd rfl (Or.inr rfl) (pe_op op_cat (pv 5) (pe_lc (own := [("field", 8)]) rfl sc__law_w_program.nd (pi_range1 (by rfl) T.b_range (pa_cons (pv 7) pa_nil)) (blkOk_by (N := N__law_w_program) (sc := defScope s__law_w_program) (by decide +kernel)) (fun _ _ _ _ _ => (pg_name (i := 8) sc__law_w_program.nd rfl (Or.inl rfl))) (fun _ _ _ _ _ => pts_nil) (fun _ _ _ _ _ => (pe_tup (pa_cons (pv 6) (pa_cons (pv 8) pa_nil)))))))))
    (pss_cons (ps_set (i := 9) sc__law_w_program.nd rfl (Or.inl rfl) (pe_lst pa_nil))
    (pss_cons (ps_for PassesOwn.never rfl (pi_enum (by rfl) T.b_enumerate (pa_cons (pv 3) pa_nil)) (pg_tup rfl (pgs_cons (pg_name (i := 6) sc__law_w_program.nd rfl (Or.inr rfl)) (pgs_cons (pg_name (i := 7) sc__law_w_program.nd rfl (Or.inl rfl)) pgs_nil))) (pss_cons (ps_set (i := 10) sc__law_w_program.nd rfl (Or.inl rfl) (pe_ifExp (PW.pt (pw_and (pt_cmpR op_gt (pv 6) pe_int (nomark _)) (pw_and1 (pt_cmpR op_eq (pe_callO G__law_take (hr.mono (by decide)) (pa_cons (pv 0) (pa_cons pe_int pa_nil))) pe_int (nomark _))))) (pe_callO G__law_take (hr.mono (by decide)) (pa_cons (pv 0) (pa_cons (pv 6) pa_nil))) pe_non))
    (pss_cons (ps_setLc (i := 11) (own := [("turn", 4)]) (g := gName 4) rfl sc__law_w_program.nd rfl rfl (sw_true rfl rfl rfl (by decide +kernel)) (pi_range1 (by rfl) T.b_range (pa_cons (pe_callO G__law_take (hr.mono (by decide)) (pa_cons (pv 0) (pa_cons pe_int pa_nil))) pa_nil)) (blkOk_by (N := N__law_w_program) (sc := defScope s__law_w_program) (by decide +kernel)) (fun _ _ _ _ _ => (pg_name (i := 4) sc__law_w_program.nd rfl (Or.inl rfl))) (fun _ _ _ _ _ => pts_nil) (fun _ _ _ _ _ => (pe_callO G__law_w_straight (hr.mono (by decide)) (pa_cons (pv 0) (pa_cons (pv 5) (pa_cons pe_int pa_nil))))))
    (pss_one (ps_expr (pe_bm PySem.F.plainAttrs_list PySem.F.slot_list_append PySem.F.type_list_append mt_append (pv 9) (pa_cons (pe_tup (pa_cons (pv 10) (pa_cons (pv 7) (pa_cons (pe_callTy call_tuple_of (by rfl) T.b_tuple (by decide +kernel) (pa_cons (pv 11) pa_nil)) pa_nil)))) pa_nil)))))))
    (pss_cons (ps_set (i := 12) sc__law_w_program.nd rfl (Or.inl rfl) (pe_lst pa_nil))
    (pss_cons (ps_for PassesOwn.never rfl (pi_range1 (by rfl) T.b_range (pa_cons (pe_op op_add pe_int (pe_callO G__law_take (hr.mono (by decide)) (pa_cons (pv 0) (pa_cons pe_int pa_nil)))) pa_nil)) (pg_name (i := 13) sc__law_w_program.nd rfl (Or.inl rfl)) (pss_one (ps_expr (pe_bm PySem.F.plainAttrs_list PySem.F.slot_list_append PySem.F.type_list_append mt_append (pv 12) (pa_cons (pe_tup (pa_cons (pe_callO G__law_take (hr.mono (by decide)) (pa_cons (pv 0) (pa_cons (pe_callB call_len_seq (by rfl) T.b_len (by decide +kernel) (pa_cons (pv 9) pa_nil)) pa_nil))) (pa_cons (pe_op op_add pe_int (pe_callO G__law_take (hr.mono (by decide)) (pa_cons (pv 0) (pa_cons (pv 2) pa_nil)))) pa_nil))) pa_nil)))))
    (pss_cons (ps_set (i := 14) sc__law_w_program.nd rfl (Or.inl rfl) (pe_lst pa_nil))
    (pss_cons (ps_for PassesOwn.never rfl (pi_enum (by rfl) T.b_enumerate (pa_cons (pv 12) pa_nil)) (pg_tup rfl (pgs_cons (pg_name (i := 13) sc__law_w_program.nd rfl (Or.inl rfl)) (pgs_cons (pg_name (i := 15) sc__law_w_program.nd rfl (Or.inl rfl)) pgs_nil))) (pss_cons (ps_par (i := 16) (j := 11) (by rfl) sc__law_w_program.nd rfl rfl (by decide) rfl rfl (pa_cons (pe_tup (pa_cons (pe_callB call_len_seq (by rfl) T.b_len (by decide +kernel) (pa_cons (pv 9) pa_nil)) (pa_cons (pe_callB call_len_seq (by rfl) T.b_len (by decide +kernel) (pa_cons (pv 12) pa_nil)) pa_nil))) (pa_cons (pe_lst pa_nil) pa_nil)) (by rfl))
    (pss_cons (ps_for PassesOwn.never rfl (pi_range1 (by rfl) T.b_range (pa_cons (pe_ix ix_tup (pv 15) pe_int (fun _ _ => rfl)) pa_nil)) (pg_name (i := 17) sc__law_w_program.nd rfl (Or.inl rfl)) (pss_one (ps_expr (pe_bm PySem.F.plainAttrs_list PySem.F.slot_list_append PySem.F.type_list_append mt_append (pv 11) (pa_cons (pe_callO G__law_w_line (hr.mono (by decide)) (pa_cons (pv 0) (pa_cons (pv 5) (pa_cons (pe_tup (pa_cons (pv 13) (pa_cons (pv 17) (pa_cons (pe_ix ix_tup (pv 15) pe_int (fun _ _ => rfl)) pa_nil)))) (pa_cons (pv 16) pa_nil))))) pa_nil)))))
    (pss_one (ps_expr (pe_bm PySem.F.plainAttrs_list PySem.F.slot_list_append PySem.F.type_list_append mt_append (pv 14) (pa_cons (pe_tup (pa_cons (pe_ix ix_tup (pv 15) pe_int (fun _ _ => rfl)) (pa_cons (pe_callTy call_tuple_of (by rfl) T.b_tuple (by decide +kernel) (pa_cons (pv 11) pa_nil)) pa_nil))) pa_nil)))))))
    (pss_one (ps_ret (pe_tup (pa_cons (pe_callTy call_tuple_of (by rfl) T.b_tuple (by decide +kernel) (pa_cons (pv 9) pa_nil)) (pa_cons (pe_callTy call_tuple_of (by rfl) T.b_tuple (by decide +kernel) (pa_cons (pv 14) pa_nil)) pa_nil)))))))))))))), ?_⟩
    -- counts
    refine asgLc ?_
    refine ⟨_, rfl, _, rfl, p, m, B, rfl, hp, by omega, by omega, by omega, fun H1 r s1 p1 r0 r1 => ?_⟩
    have c1 := (PAt.refl hp).take s1 p1
    refine ⟨1, r, rfl, rfl, _, rfl, by omega, by omega, ?_⟩
    refine lcP (c := 1) (B := B + 1) (n := (1 + r).toNat) (fun H v => ∃ i, v = .int i ∧ 0 ≤ i ∧ i ≤ 3) (fun _ _ _ _ g => g) c1.pen (by omega) ?_ (fun k H2 hk c2 Q' q' => ?_) (fun D H2 ys c2 nD hD hlen hys => ?_)
    · exact fun _ => rfl
    · refine ⟨_, rfl, sz_of (by show 5 ≤ 100000; decide), fun l nl => ?_⟩
      have c3 := c2.new nl (o := .lst [V.int 0, .int 1, .int 1, .int 2, .int 3])
      refine ⟨p, l, [V.int 0, .int 1, .int 1, .int 2, .int 3], _, rfl, c3.pen, by omega, off_of upd_same (c2.pen.ne nl), (by show 0 < 5; decide), (by show 5 < 1000000; decide), fun H3 x s3 p3 hx => ?_⟩
      refine q' x H3 ((((PAt.refl c2.pen).new nl).take s3 p3).mono (by omega)) ?_
      simp only [List.mem_cons, List.not_mem_nil, or_false] at hx
      rcases hx with rfl | rfl | rfl | rfl | rfl <;> exact ⟨_, rfl, by decide, by decide⟩
    obtain ⟨fs, rfl, hfs⟩ := ints_of hys
    rw [List.length_map] at hlen
    have fl1 : 1 ≤ fs.length := by omega
    have fl6 : fs.length ≤ 6 := by omega
    have C2 := (c1.trans c2).mono (B' := B + 10) (by omega)
    have nDp : D ≠ p := c1.pen.ne nD
    -- fields = []
    refine ⟨sz_of (by show 0 ≤ 100000; decide), fun l0 nl0 => ?_⟩
    have C3 := C2.new nl0 (o := .lst [])
    have hD3 : (upd H2 l0 (.lst [])) D = some (.lst (fs.map V.int)) := by rw [upd_ne (ne_of_none hD nl0)]; exact hD
    generalize hH3 : upd H2 l0 (.lst []) = H3 at C3 hD3 ⊢
    have hl0 : H3 l0 = some (.lst []) := by rw [← hH3]; exact upd_same
    refine ⟨_, rfl, D, fs.map V.int, rfl, .inl (.inl hD3), ?_⟩
    refine for_it walk_enum (fun i σ H' => ∃ (l : Addr) (y6 y7 y8 : Option V), σ = [some (.ref p), some (.int m), some (.int n), some (.ref D), none, some (.ref l), y6, y7, y8, none, none, none, none, none, none, none, none, none] ∧ PAt p (B + 10) H3 H' ∧ FieldsA H' l fs i ∧ H' D = some (.lst (fs.map V.int)) ∧ l ≠ p)
      ⟨l0, none, none, none, rfl, PAt.refl C3.pen, ⟨[], [], hl0, .nil, Nat.zero_le _, fun z hz => by cases hz⟩, hD3, C2.pen.ne nl0⟩ (fun i σ H' _ ⟨l, y6, y7, y8, _, _, _, h4, _⟩ => .inl (.inl h4)) ?_ ?_
    · rintro i x σ H' H'' hi ⟨l, y6, y7, y8, rfl, cI, fA, hD', lp⟩ ⟨T', x1, x2, rfl, nT, rfl, f1, f2⟩
      obtain rfl : x1 = .int (i : Nat) := (Option.some.inj f1).symm
      rw [List.length_map] at hi
      obtain ⟨z, hz⟩ : ∃ z, fs[i]? = some z := ⟨_, List.getElem?_eq_getElem hi⟩
      obtain rfl : x2 = .int z := by
        have f2' : (fs.map V.int)[i]? = some x2 := f2
        rw [List.getElem?_map, hz] at f2'
        exact (Option.some.inj f2').symm
      obtain ⟨z0, z3⟩ := hfs z (List.mem_of_getElem? hz)
      have cT := (PAt.refl cI.pen).new nT (o := .tup [V.int (i : Nat), .int z])
      have hlT : (upd H' T' (.tup [V.int (i : Nat), .int z])) l ≠ none := by
        obtain ⟨xs, zs, h1, _⟩ := fA
        rw [upd_ne (ne_of_none h1 nT), h1]
        exact fun z => by cases z
      have fA2 : FieldsA (upd H' T' (.tup [V.int (i : Nat), .int z])) l fs i := fA.exT (.of (same_new nT)) fun xs h => same_new nT _ _ h
      have hDT : (upd H' T' (.tup [V.int (i : Nat), .int z])) D = some (.lst (fs.map V.int)) := same_new nT _ _ hD'
      refine ⟨T', _, rfl, .inl (.inl upd_same), rfl, _, _, rfl, _, _, rfl, rfl, ?_⟩
      generalize upd H' T' (.tup [V.int (i : Nat), .int z]) = HT at cT fA2 hlT hDT ⊢
      obtain ⟨xs, zs, g1, g2, g3, g4⟩ := fA2
      refine ⟨_, rfl, ?_⟩
      refine tlcI ?_
      refine ⟨_, rfl, z, rfl, by omega, by omega, ?_⟩
      refine lcP (c := 0) (B := B + 10) (n := z.toNat) (fun H v => ∃ f, Da H v (dpT ((i : Nat), f)) ∧ 0 ≤ f ∧ f < z) (fun H H' v e ⟨f, g, gg⟩ => ⟨f, g.exT e rfl, gg⟩) cT.pen (by omega) ?_ (fun k H2 hk c2 Q' q' => ?_) (fun D2 H2 ys c2 nD2 hD2 hlen hys => ?_)
      · exact fun _ => rfl
      · refine ⟨_, rfl, _, rfl, sz_of (by show 2 ≤ 100000; decide), fun a na => ?_⟩
        refine q' _ _ (((PAt.refl c2.pen).new na).mono (by omega)) ⟨(k : Nat), .tup upd_same (.cons (.int _) (.cons (.int _) .nil)), by omega, by omega⟩
      · have hl2 := c2.lst g1 lp
        obtain ⟨ws, w1, w2, w3⟩ := zs_of hys
        have wl : ws.length ≤ 3 := by rw [w2, hlen]; omega
        have xl : xs.length ≤ 3 * i := by rw [g2.len, List.length_map]; exact g3
        refine ⟨l, D2, xs, ys, rfl, rfl, hl2, hD2, sz_of (by omega), fun u nu => ?_⟩
        refine ⟨u, _, _, _, rfl, ((cI.trans cT).trans (c2.mono (B' := B + 10) (by omega))).new nu, ⟨xs ++ ys, zs ++ ws, upd_same, ?_, ?_, fun v hv => ?_⟩, ?_, c2.pen.ne nu⟩
        · rw [List.map_append]
          exact ((g2.exT (c2.exT cT.pen) (zs_noL zs)).app w1).exT (.of (same_new nu)) (noLAll_app (zs_noL zs) (zs_noL ws))
        · rw [List.length_append]
          omega
        · rw [List.mem_append] at hv
          rcases hv with hv | hv
          · exact g4 v hv
          · obtain ⟨q1, q2, q3⟩ := w3 v hv
            rw [q1]
            refine ⟨by omega, by omega, q2, ?_⟩
            rw [show ((i : Nat) : Int).toNat = i by omega, List.getD_eq_getElem?_getD, hz]
            exact q3
        · exact same_new nu _ _ (c2.lst hDT nDp)
    rintro σ H4 ⟨l, y6, y7, y8, rfl, C4, fA, hD4, lp⟩
    rw [List.length_map] at fA
    have C4' := C3.trans C4
    -- units = []
    refine ⟨sz_of (by show 0 ≤ 100000; decide), fun ul nul => ?_⟩
    have cU := (PAt.refl C4.pen).new nul (o := .lst [])
    have ulp : ul ≠ p := C4.pen.ne nul
    refine ⟨_, rfl, D, fs.map V.int, rfl, .inl (.inl (same_new nul _ _ hD4)), ?_⟩
    refine for_it walk_enum (fun i σ H' => ∃ (y6 y7 y10 y11 : Option V), σ = [some (.ref p), some (.int m), some (.int n), some (.ref D), none, some (.ref l), y6, y7, y8, some (.ref ul), y10, y11, none, none, none, none, none, none] ∧ PAt p (B + 10 + 60 * i) H4 H' ∧
        ∃ us ds, H' ul = some (.lst us) ∧ DaAll H' us ds ∧ ds.length = i ∧ ∀ k d, ds[k]? = some d → UnitOk fs k d)
      ⟨_, _, none, none, rfl, cU, [], [], upd_same, .nil, rfl, fun k d h => by cases h⟩ (fun i σ H' _ ⟨y6, y7, y10, y11, _, cI, _⟩ => .inl (.inl (cI.lst hD4 nDp))) ?_ ?_
    · rintro i x σ H' H'' hi ⟨y6, y7, y10, y11, rfl, cI, us, ds, hul, hus, hdl, hok⟩ ⟨T', x1, x2, rfl, nT, rfl, f1, f2⟩
      obtain rfl : x1 = .int (i : Nat) := (Option.some.inj f1).symm
      rw [List.length_map] at hi
      obtain ⟨z, hz⟩ : ∃ z, fs[i]? = some z := ⟨_, List.getElem?_eq_getElem hi⟩
      obtain rfl : x2 = .int z := by
        have f2' : (fs.map V.int)[i]? = some x2 := f2
        rw [List.getElem?_map, hz] at f2'
        exact (Option.some.inj f2').symm
      obtain ⟨z0, z3⟩ := hfs z (List.mem_of_getElem? hz)
      have hnl : noLAll ds = true := noLAll_of fun d hd => by
        obtain ⟨k, hk⟩ := List.getElem?_of_mem hd
        exact (hok k d hk).2.2.2
      have cT := cI.new nT (o := .tup [V.int (i : Nat), .int z])
      refine ⟨T', _, rfl, .inl (.inl upd_same), rfl, _, _, rfl, _, _, rfl, rfl, ?_⟩
      have hul2 : (upd H' T' (.tup [V.int (i : Nat), .int z])) ul = some (.lst us) := same_new nT _ _ hul
      have hus2 := hus.exT (.of (same_new nT (o := .tup [V.int (i : Nat), .int z]))) hnl
      generalize upd H' T' (.tup [V.int (i : Nat), .int z]) = HT at cT hul2 hus2 ⊢
      refine parentP cT.pen (by omega) (by omega) rfl rfl fun H5 vp dp c5 ddp okp nlp => ?_
      have c5' := cT.trans c5
      -- body
      refine asgLc ?_
      refine ⟨_, rfl, p, 7, _, rfl, c5.pen, by omega, by decide, by decide, fun H6 z6 s6 p6 z60 z61 => ?_⟩
      have c6 := c5'.take s6 p6
      have c6h := (PAt.refl c5.pen).take s6 p6
      refine ⟨z6, rfl, by omega, by omega, ?_⟩
      have fA6 := fA.exT (c6.exT C4.pen) fun xs h => c6.lst h lp
      refine lcP (c := 8) (n := z6.toNat) (fun H v => ∃ d, Da H v d ∧ noL d = true ∧ okIns false (limsI fs.length) fs d = true) (fun H H' v e ⟨d, g, nl, gg⟩ => ⟨d, g.exT e nl, nl, gg⟩) c6.pen (by omega) ?_ (fun k H7 hk c7 Q' q' => ?_) (fun D2 H7 ys c7 nD2 hD2 hlen hys => ?_)
      · exact fun _ => rfl
      · have fA7 := fA6.exT (c7.exT c6.pen) fun xs h => c7.lst h lp
        refine ⟨_, rfl, _, rfl, p, l, 3, _, fs, rfl, c7.pen, by omega, by decide, by decide, fA7.ok c7.pen lp (by omega), fun H8 v d c8 dd nl ok => ?_⟩
        exact q' v H8 (c8.mono (by omega)) ⟨d, dd.ex off_sub, nl, ok⟩
      · obtain ⟨bs, hb1, hb2⟩ := das_of hys
        have bnl : noLAll bs = true := noLAll_of fun d hd => (hb2 d hd).1
        have bl6 : bs.length ≤ 6 := by rw [← hb1.len, hlen]; omega
        have hul7 := c7.lst (c6h.lst (c5.lst hul2 ulp) ulp) ulp
        have e57 := (c6h.exT c5.pen).trans (c7.exT c6.pen)
        refine ⟨_, rfl, Or.inl ⟨rfl, us, .inl (.inl hul7)⟩, ?_⟩
        refine ⟨_, rfl, _, rfl, _, rfl, D2, ys, rfl, .inl ⟨.inl (.inl hD2), fun t nt => ?_⟩⟩
        refine ⟨sz_of (by show 3 ≤ 100000; decide), fun a na => ?_⟩
        have e7 : ExT H7 (upd (upd H7 t (.tup ys)) a (.tup [vp, .int z, .ref t])) := (ExT.of (same_new nt)).trans (.of (same_new na))
        have hula : (upd (upd H7 t (.tup ys)) a (.tup [vp, .int z, .ref t])) ul = some (.lst us) := same_new na _ _ (same_new nt _ _ hul7)
        have dA : Da (upd (upd H7 t (.tup ys)) a (.tup [vp, .int z, .ref t])) (.ref a) (.tuple [dp, .int z, .tuple bs]) :=
          .tup upd_same (.cons ((ddp.exT e57 nlp).exT e7 nlp) (.cons (.int z) (.cons (.tup (same_new na _ _ upd_same) (hb1.exT e7 bnl)) .nil)))
        have nlA : noL (.tuple [dp, .int z, .tuple bs]) = true := by
          show (noL dp && (true && (noLAll bs && true))) = true
          rw [nlp, bnl]
          rfl
        have usl : us.length = i := by rw [hus.len, hdl]
        refine ⟨ul, us, .ref a, rfl, rfl, hula, sz_lt (by omega), ?_⟩
        have e8 := ExT.lst (o := .lst (us ++ [V.ref a])) hula
        refine ⟨_, _, _, _, rfl, ((((c6.trans c7).new nt).new na).upd C4.pen nul).mono (by omega), us ++ [.ref a], ds ++ [.tuple [dp, .int z, .tuple bs]], upd_same, ?_, by rw [List.length_append, hdl]; rfl, at_snoc hok ?_⟩
        · exact (((hus2.exT ((c5.exT cT.pen).trans e57) hnl).exT e7 hnl).app (.cons dA .nil)).exT e8 (noLAll_app hnl (by rw [noLAll, nlA]; rfl))
        · rw [hdl]
          refine ⟨?_, ?_, hz, nlA⟩
          · show ((isNonD dp || isIn dp 0 ((i : Int) - 1)) && isIn (.int z) 0 3) = true
            rw [okp, isIn_of z0 z3]
            rfl
          · show (decide (bs.length ≤ 6) && bs.all (okIns false (limsI fs.length) fs)) = true
            rw [decide_eq_true bl6, Bool.true_and, List.all_eq_true]
            exact fun d hd => (hb2 d hd).2
    rintro σ H5 ⟨y6, y7, y10, y11, rfl, C5, us, dus, hul, hus, hdl, hok⟩
    rw [List.length_map] at C5 hdl
    have usl : us.length = fs.length := by rw [hus.len, hdl]
    have hnl : noLAll dus = true := noLAll_of fun d hd => by
      obtain ⟨k, hk⟩ := List.getElem?_of_mem hd
      exact (hok k d hk).2.2.2
    have fA5 := fA.exT (C5.exT C4.pen) fun xs h => C5.lst h lp
    have C5' := (C4'.trans C5).mono (B' := B + 500) (by omega)
    -- functions = []
    refine ⟨sz_of (by show 0 ≤ 100000; decide), fun fl nfl => ?_⟩
    have flp : fl ≠ p := C5.pen.ne nfl
    have c6 := (PAt.refl C5'.pen).new nfl (o := .lst [])
    refine ⟨_, rfl, p, 4, _, rfl, c6.pen, by omega, by decide, by decide, fun H6 nf' s6 p6 nf0 nf1 => ?_⟩
    have c7 := c6.take s6 p6
    have hfl6 : H6 fl = some (.lst []) := off_sub _ _ (s6 _ _ (off_of upd_same flp))
    refine ⟨1, nf', rfl, rfl, _, rfl, by omega, by omega, ?_⟩
    refine for_it (walk_range (lo := 0) (n := (1 + nf').toNat)) (fun i σ H' => ∃ (y13 : Option V), σ = [some (.ref p), some (.int m), some (.int n), some (.ref D), none, some (.ref l), y6, y7, y8, some (.ref ul), y10, y11, some (.ref fl), y13, none, none, none, none] ∧ PAt p (B + 501 + 2 * i) H5 H' ∧
        ∃ ys, H' fl = some (.lst ys) ∧ ys.length = i ∧ ∀ y ∈ ys, HeadOk fs.length H' y)
      ⟨none, rfl, c7.mono (by omega), [], hfl6, rfl, fun y hy => by cases hy⟩ (fun _ _ _ _ _ => trivial) ?_ ?_
    · rintro i x σ H' H'' hi ⟨y13, rfl, cI, ys, hfl, hyl, hys⟩ ⟨rfl, rfl⟩
      refine ⟨_, rfl, Or.inl ⟨rfl, ys, .inl (.inl hfl)⟩, ?_⟩
      have hulI := cI.lst hul (C4.pen.ne nul)
      refine ⟨_, rfl, _, rfl, ul, us, rfl, .inl (.inl (.inl hulI)), p, _, _, rfl, cI.pen, by omega, by omega, by omega, fun H7 u s7 p7 u0 u1 => ?_⟩
      have c7 := (PAt.refl cI.pen).take s7 p7
      refine ⟨_, rfl, _, rfl, p, n, _, rfl, c7.pen, by omega, by omega, by omega, fun H8 r s8 p8 r0 r1 => ?_⟩
      have c8 := c7.take s8 p8
      refine ⟨1, r, rfl, rfl, sz_of (by show 2 ≤ 100000; decide), fun a na => ?_⟩
      have c9 := c8.new na (o := .tup [V.int u, .int (1 + r)])
      have hfl9 := c9.lst hfl flp
      refine ⟨fl, ys, .ref a, rfl, rfl, hfl9, sz_lt (by omega), ?_⟩
      have e9 := (c9.exT cI.pen).trans (ExT.lst (o := .lst (ys ++ [V.ref a])) hfl9)
      refine ⟨_, rfl, ((cI.trans c9).upd C5'.pen nfl).mono (by omega), ys ++ [.ref a], upd_same, by rw [List.length_append, hyl]; rfl, fun y hy => ?_⟩
      rw [List.mem_append, List.mem_singleton] at hy
      rcases hy with hy | rfl
      · obtain ⟨t, u', m', e1, e2, e3⟩ := hys y hy
        exact ⟨t, u', m', e1, e9 _ _ e2, e3⟩
      · exact ⟨a, u, 1 + r, rfl, ExT.lst hfl9 _ _ upd_same, u0, by omega, by omega, by omega⟩
    rintro σ H7 ⟨y13, rfl, C7, hs, hfl, hhl, hhs⟩
    have C7' := (C5'.trans C7).mono (B' := B + 600) (by omega)
    have hul7 := C7.lst hul (C4.pen.ne nul)
    have fA7 := fA5.exT (C7.exT C5'.pen) fun xs h => C7.lst h lp
    have hus7 := hus.exT (C7.exT C5'.pen) hnl
    have nf1' : 1 ≤ hs.length := by omega
    have nf4' : hs.length ≤ 4 := by omega
    clear hhl
    -- found = []
    refine ⟨sz_of (by show 0 ≤ 100000; decide), fun gl ngl => ?_⟩
    have glp : gl ≠ p := C7.pen.ne ngl
    have c8 := (PAt.refl C7'.pen).new ngl (o := .lst [])
    refine ⟨_, rfl, fl, hs, rfl, .inl (.inl (same_new ngl _ _ hfl)), ?_⟩
    refine for_it walk_enum (fun i σ H' => ∃ (y11 y13 y15 y16 y17 : Option V), σ = [some (.ref p), some (.int m), some (.int n), some (.ref D), none, some (.ref l), y6, y7, y8, some (.ref ul), y10, y11, some (.ref fl), y13, some (.ref gl), y15, y16, y17] ∧ PAt p (B + 600 + 100 * i) H7 H' ∧
        ∃ gs ds, H' gl = some (.lst gs) ∧ DaAll H' gs ds ∧ ds.length = i ∧ ∀ k d, ds[k]? = some d → FunOk fs hs.length k d)
      ⟨_, _, none, none, none, rfl, c8, [], [], upd_same, .nil, rfl, fun k d h => by cases h⟩ (fun i σ H' _ ⟨_, _, _, _, _, _, cI, _⟩ => .inl (.inl (cI.lst hfl flp))) ?_ ?_
    · rintro i x σ H' H'' hi ⟨y11, y13, y15, y16, y17, rfl, cI, gs, ds, hgl, hgs, hdl2, hok2⟩ ⟨T', x1, x2, rfl, nT, rfl, f1, f2⟩
      obtain rfl : x1 = .int (i : Nat) := (Option.some.inj f1).symm
      obtain ⟨th, u, mm, rfl, hth, u0, u1, mm1, mm8⟩ := hhs x2 (List.mem_of_getElem? f2)
      have hth' := (C7.exT C5'.pen) -- not used
      have hnl2 : noLAll ds = true := noLAll_of fun d hd => by
        obtain ⟨k, hk⟩ := List.getElem?_of_mem hd
        exact (hok2 k d hk).2.2
      have cT := cI.new nT (o := .tup [V.int (i : Nat), .ref th])
      refine ⟨T', _, rfl, .inl (.inl upd_same), rfl, _, _, rfl, _, _, rfl, rfl, ?_⟩
      have hgl2 : (upd H' T' (.tup [V.int (i : Nat), .ref th])) gl = some (.lst gs) := same_new nT _ _ hgl
      have hgs2 := hgs.exT (.of (same_new nT (o := .tup [V.int (i : Nat), .ref th]))) hnl2
      generalize upd H' T' (.tup [V.int (i : Nat), .ref th]) = HT at cT hgl2 hgs2 ⊢
      -- heads, body
      refine ⟨_, rfl, ul, us, rfl, .inl (.inl (.inl (cT.lst hul7 (C4.pen.ne nul)))), _, rfl, fl, hs, rfl, .inl (.inl (.inl (cT.lst hfl flp))), sz_of (by show 2 ≤ 100000; decide), fun hd nhd => ?_⟩
      have cH := cT.new nhd (o := .tup [V.int (us.length : Nat), .int (hs.length : Nat)])
      have hgl3 := same_new nhd (o := .tup [V.int (us.length : Nat), .int (hs.length : Nat)]) _ _ hgl2
      have hgs3 := hgs2.exT (.of (same_new nhd (o := .tup [V.int (us.length : Nat), .int (hs.length : Nat)]))) hnl2
      have hhd : (upd HT hd (.tup [V.int (us.length : Nat), .int (hs.length : Nat)])) hd = some (.tup [V.int (us.length : Nat), .int (hs.length : Nat)]) := upd_same
      have hdp : hd ≠ p := cT.pen.ne nhd
      generalize upd HT hd (.tup [V.int (us.length : Nat), .int (hs.length : Nat)]) = HH at cH hgl3 hgs3 hhd ⊢
      refine ⟨sz_of (by show 0 ≤ 100000; decide), fun bo nbo => ?_⟩
      have bop : bo ≠ p := cH.pen.ne nbo
      refine ⟨_, _, rfl, ?_⟩
      have hthH : HH th = some (.tup [V.int u, .int mm]) := (cH.exT C7.pen) _ _ hth
      have thp : th ≠ p := fun z => by
        obtain ⟨cc, cs, a', r, g1, _⟩ := cH.pen
        rw [z, g1] at hthH
        cases hthH
      have cB := (PAt.refl cH.pen).new nbo (o := .lst [])
      refine ⟨_, rfl, th, _, 1, _, rfl, rfl, st_ofD (same_new nbo _ _ hthH), rfl, mm, rfl, by omega, by omega, ?_⟩
      refine for_it (walk_range (lo := 0) (n := mm.toNat)) (fun j σ H' => ∃ (y17 : Option V), σ = [some (.ref p), some (.int m), some (.int n), some (.ref D), none, some (.ref l), y6, y7, y8, some (.ref ul), y10, some (.ref bo), some (.ref fl), some (.int (i : Nat)), some (.ref gl), some (.ref th), some (.ref hd), y17] ∧
          PAt p (B + 600 + 100 * i + 12 * j) HH H' ∧ ∃ ls es, H' bo = some (.lst ls) ∧ DaAll H' ls es ∧ es.length = j ∧ ∀ k d, es[k]? = some d → okIns true (limsF fs.length mm.toNat (i : Nat) (hs.length : Nat) (k : Nat)) fs d = true ∧ noL d = true)
        ⟨_, rfl, cB.mono (by omega), [], [], upd_same, .nil, rfl, fun k d h => by cases h⟩ (fun _ _ _ _ _ => trivial) ?_ ?_
      · rintro j x σ H2 H'' hj ⟨y17, rfl, cJ, ls, es, hbo, hls, hel, hoke⟩ ⟨rfl, rfl⟩
        have hnl3 : noLAll es = true := noLAll_of fun d hd => by
          obtain ⟨k, hk⟩ := List.getElem?_of_mem hd
          exact (hoke k d hk).2
        refine ⟨_, rfl, Or.inl ⟨rfl, ls, .inl (.inl hbo)⟩, ?_⟩
        refine ⟨_, rfl, _, rfl, _, rfl, _, rfl, _, rfl, th, _, 1, _, rfl, rfl, st_ofD ((cJ.exT cH.pen) _ _ hthH), rfl, sz_of (by show 3 ≤ 100000; decide), fun wh nwh => ?_⟩
        have cW := (PAt.refl cJ.pen).new nwh (o := .tup [V.int (i : Nat), .int (0 + (j : Int)), .int mm])
        have cHJ := cH.trans cJ
        have fAJ := (fA7.exT (cHJ.exT C7.pen) fun xs h => cHJ.lst h lp).exT (.of (same_new nwh (o := .tup [V.int (i : Nat), .int (0 + (j : Int)), .int mm]))) fun xs h => same_new nwh _ _ h
        have hhdJ := cJ.exT cH.pen _ _ hhd
        have whp : wh ≠ p := cJ.pen.ne nwh
        have hwh : (upd H'' wh (.tup [V.int (i : Nat), .int (0 + (j : Int)), .int mm])) wh = some (.tup [V.int (i : Nat), .int (j : Int), .int (mm.toNat : Nat)]) := by
          rw [upd_same, show (0 : Int) + (j : Int) = (j : Int) from Int.zero_add _, show ((mm.toNat : Nat) : Int) = mm by omega]
        have hhdW := same_new nwh (o := .tup [V.int (i : Nat), .int (0 + (j : Int)), .int mm]) _ _ hhdJ
        have hboW := same_new nwh (o := .tup [V.int (i : Nat), .int (0 + (j : Int)), .int mm]) _ _ hbo
        have hlsW := hls.exT (.of (same_new nwh (o := .tup [V.int (i : Nat), .int (0 + (j : Int)), .int mm]))) hnl3
        rw [usl] at hhdW
        refine ⟨_, rfl, p, l, wh, hd, _, mm.toNat, fs, (i : Nat), (j : Nat), (hs.length : Nat), rfl, cW.pen, by omega, fAJ.ok cW.pen lp (by omega), off_of hwh whp, off_of hhdW hdp, by omega, by omega, by omega, by omega, by omega, by omega, by omega, by omega, fun H9 v d c9 dd nl ok => ?_⟩
        have hbo9 := c9.lst hboW bop
        have lsl : ls.length = j := by rw [hls.len, hel]
        refine ⟨bo, ls, v, rfl, rfl, hbo9, sz_lt (by omega), ?_⟩
        have e9 := ExT.lst (o := .lst (ls ++ [v])) hbo9
        refine ⟨_, rfl, (((cJ.trans cW).trans c9).upd cH.pen nbo).mono (by omega), ls ++ [v], es ++ [d], upd_same, ?_, by rw [List.length_append, hel]; rfl, at_snoc hoke (by rw [hel]; exact ⟨ok, nl⟩)⟩
        exact ((hlsW.exT (c9.exT cW.pen) hnl3).app (.cons (dd.ex off_sub) .nil)).exT e9 (noLAll_app hnl3 (by rw [noLAll, nl]; rfl))
      · rintro σ H2 ⟨y17, rfl, cJ, ls, es, hbo, hls, hel, hoke⟩
        have hnl3 : noLAll es = true := noLAll_of fun d hd => by
          obtain ⟨k, hk⟩ := List.getElem?_of_mem hd
          exact (hoke k d hk).2
        have hgl4 := cJ.lst hgl3 glp
        refine ⟨_, rfl, Or.inl ⟨rfl, gs, .inl (.inl hgl4)⟩, ?_⟩
        refine ⟨_, rfl, th, _, 0, _, rfl, rfl, st_ofD ((cJ.exT cH.pen) _ _ hthH), rfl, _, rfl, bo, ls, rfl, .inl ⟨.inl (.inl hbo), fun t nt => ?_⟩⟩
        refine ⟨sz_of (by show 2 ≤ 100000; decide), fun a na => ?_⟩
        have e7 : ExT H2 (upd (upd H2 t (.tup ls)) a (.tup [.int u, .ref t])) := (ExT.of (same_new nt)).trans (.of (same_new na))
        have hgla : (upd (upd H2 t (.tup ls)) a (.tup [.int u, .ref t])) gl = some (.lst gs) := same_new na _ _ (same_new nt _ _ hgl4)
        have dA : Da (upd (upd H2 t (.tup ls)) a (.tup [.int u, .ref t])) (.ref a) (.tuple [.int u, .tuple es]) := .tup upd_same (.cons (.int u) (.cons (.tup (same_new na _ _ upd_same) (hls.exT e7 hnl3)) .nil))
        have nlA : noL (.tuple [.int u, .tuple es]) = true := by
          show (true && (noLAll es && true)) = true
          rw [hnl3]
          rfl
        have gsl : gs.length = i := by rw [hgs.len, hdl2]
        refine ⟨gl, gs, .ref a, rfl, rfl, hgla, sz_lt (by omega), ?_⟩
        have e8 := ExT.lst (o := .lst (gs ++ [V.ref a])) hgla
        refine ⟨_, _, _, _, _, rfl, ((((cH.trans cJ).new nt).new na).upd C7.pen ngl).mono (by omega), gs ++ [.ref a], ds ++ [.tuple [.int u, .tuple es]], upd_same, ?_, by rw [List.length_append, hdl2]; rfl, at_snoc hok2 ?_⟩
        · exact (((hgs3.exT (cJ.exT cH.pen) hnl2).exT e7 hnl2).app (.cons dA .nil)).exT e8 (noLAll_app hnl2 (by rw [noLAll, nlA]; rfl))
        · rw [hdl2]
          refine ⟨isIn_of u0 (by omega), ?_, nlA⟩
          show (decide (1 ≤ es.length) && decide (es.length ≤ 8) && (List.range es.length).all fun k => okIns true (limsF fs.length es.length (i : Nat) (hs.length : Nat) (k : Nat)) fs (es.getD k .none)) = true
          rw [hel, decide_eq_true (by omega), decide_eq_true (by omega), Bool.true_and, Bool.true_and, List.all_eq_true]
          intro k hk
          have hk := List.mem_range.mp hk
          rw [getD_at (List.getElem?_eq_getElem (by omega : k < es.length))]
          exact (hoke k _ (List.getElem?_eq_getElem (by omega : k < es.length))).1
    rintro σ H8 ⟨y11, y13, y15, y16, y17, rfl, C8, gs, dfs, hgl, hgs, hdl2, hok2⟩
    have hnl2 : noLAll dfs = true := noLAll_of fun d hd => by
      obtain ⟨k, hk⟩ := List.getElem?_of_mem hd
      exact (hok2 k d hk).2.2
    have hus8 := hus7.exT (C8.exT C7.pen) hnl
    refine ⟨_, rfl, ul, us, rfl, .inl ⟨.inl (.inl (C8.lst hul7 (C4.pen.ne nul))), fun t1 nt1 => ?_⟩⟩
    refine ⟨_, rfl, gl, gs, rfl, .inl ⟨.inl (.inl (same_new nt1 _ _ hgl)), fun t2 nt2 => ?_⟩⟩
    refine ⟨sz_of (by show 2 ≤ 100000; decide), fun a na => ?_⟩
    have e1 := ExT.of (same_new nt1 (o := .tup us))
    have e2 := ExT.of (same_new nt2 (o := .tup gs))
    have e3 := ExT.of (same_new na (o := .tup [V.ref t1, .ref t2]))
    refine q _ _ (.tuple [.tuple dus, .tuple dfs]) (((((C7'.trans C8).new nt1).new nt2).new na).mono (by omega)) (.tup upd_same (.cons (.tup (e3 _ _ (e2 _ _ upd_same)) (((hus8.exT e1 hnl).exT e2 hnl).exT e3 hnl)) (.cons (.tup (e3 _ _ upd_same) (((hgs.exT e1 hnl2).exT e2 hnl2).exT e3 hnl2)) .nil))) ?_ ?_
    · show (noLAll dus && (noLAll dfs && true)) = true
      rw [hnl, hnl2]
      rfl
    · have efs : dus.map fieldsD = fs := by
        refine List.ext_getElem? fun k => ?_
        rw [List.getElem?_map]
        cases e : dus[k]? with
        | none =>
          have := List.getElem?_eq_none_iff.mp e
          rw [List.getElem?_eq_none (by omega)]
          rfl
        | some d => exact (hok k d e).2.2.1.symm
      show (okUnits (.tuple dus) && okFuns (dus.length : Nat) (.tuple dfs) && dus.all (fun u => okInit (dus.map fieldsD) (bodyD u)) && (List.range dfs.length).all fun i => okCode (i : Nat) (dfs.length : Nat) (dus.map fieldsD) (bodyD (dfs.getD i .none))) = true
      rw [efs, hdl]
      have g1 : okUnits (.tuple dus) = true := by
        show (decide (1 ≤ dus.length) && decide (dus.length ≤ 6) && (List.range dus.length).all fun i => okUnit (i : Nat) (dus.getD i .none)) = true
        rw [decide_eq_true (by omega), decide_eq_true (by omega), Bool.true_and, Bool.true_and, List.all_eq_true]
        intro k hk
        have hk := List.mem_range.mp hk
        rw [getD_at (List.getElem?_eq_getElem hk)]
        exact (hok k _ (List.getElem?_eq_getElem hk)).1
      have g2 : okFuns (fs.length : Nat) (.tuple dfs) = true := by
        show (decide (1 ≤ dfs.length) && decide (dfs.length ≤ 4) && dfs.all (okFun (fs.length : Nat))) = true
        rw [decide_eq_true (by omega), decide_eq_true (by omega), Bool.true_and, Bool.true_and, List.all_eq_true]
        intro d hd
        obtain ⟨k, hk⟩ := List.getElem?_of_mem hd
        exact (hok2 k d hk).1
      rw [g1, g2, Bool.true_and, Bool.true_and, Bool.and_eq_true, List.all_eq_true, List.all_eq_true]
      refine ⟨fun d hd => ?_, fun k hk => ?_⟩
      · obtain ⟨k, hk⟩ := List.getElem?_of_mem hd
        exact (hok k d hk).2.1
      · have hk := List.mem_range.mp hk
        rw [getD_at (List.getElem?_eq_getElem hk), hdl2]
        exact (hok2 k _ (List.getElem?_eq_getElem hk)).2.1
end
end FW
set_option Elab.async false
set_option linter.all false
set_option maxRecDepth 100000
set_option maxHeartbeats 4000000
namespace FW
open PySem PySem.Spec PyProof.Rows L2
open Evl (pss_cut tCut)
/-! ### the program's recognizers -/
open Evl (Ex Ev EvT EvA EvL EvU RC RV fresh_back ev_var ev_c ea_nil ea_cons ev_cb ev_op ev_is ev_andV ev_orV ev_notV et_test et_B et_and et_or et_not et_is s_ret s_when q_when q_asg q_asgL q_asgU rv_I0 rv_eq rv_ne rv_ixT rv_ixL)
/-- what the module has written of the words' kinds -/
def KForms (K : PySem.W.Frag) (P : Params) (mg : Str → Option Value) (x : Str) (fm : List (Str × List Str)) : Prop := ∃ p kvs, mg x = some (.ref p) ∧ KD K P p kvs ∧
  Paired (fun (kv : Str × V) (e : Str × List Str) => kv.1 = e.1 ∧ ∃ a, kv.2 = .ref a ∧ ∀ H, SqT K H a (e.2.map V.str)) kvs fm
structure TProg (K : PySem.W.Frag) (P : Params) (mg : Str → Option Value) : Prop where
  b_isinstance : mg "isinstance" = none
  b_int : mg "int" = none
  b_bool : mg "bool" = none
  b_str : mg "str" = none
  b_tuple : mg "tuple" = none
  b_len : mg "len" = none
  b_enumerate : mg "enumerate" = none
  b_all : mg "all" = none
  c_MOST_NUMBER : ∃ t, mg "MOST_NUMBER" = some (.int 65535 t)
  c_MOST_UNITS : ∃ t, mg "MOST_UNITS" = some (.int 6 t)
  c_MOST_FIELDS : ∃ t, mg "MOST_FIELDS" = some (.int 3 t)
  c_MOST_FUNCTIONS : ∃ t, mg "MOST_FUNCTIONS" = some (.int 4 t)
  c_MOST_IN_INITIALIZER : ∃ t, mg "MOST_IN_INITIALIZER" = some (.int 6 t)
  c_MOST_IN_FUNCTION : ∃ t, mg "MOST_IN_FUNCTION" = some (.int 8 t)
  c_LAST_SLOT : ∃ t, mg "LAST_SLOT" = some (.int 2 t)
  f_I : KForms K P mg "FORMS" formsI
  f_F : KForms K P mg "FORMS_IN_FUNCTIONS" formsF
  d_is_integer : Df K mg "is_integer" s_is_integer
  d_is_within : Df K mg "is_within" s_is_within
  d_is_index : Df K mg "is_index" s_is_index
  d_is_tuple : Df K mg "is_tuple" s_is_tuple
  d_kinds : Df K mg "_kinds" s__kinds
  d_shared_limits : Df K mg "_shared_limits" s__shared_limits
  d_is_instruction : Df K mg "_is_instruction" s__is_instruction
  d_is_initializer : Df K mg "_is_initializer" s__is_initializer
  d_is_code : Df K mg "_is_code" s__is_code
  d_is_unit : Df K mg "_is_unit" s__is_unit
  d_are_units : Df K mg "_are_units" s__are_units
  d_are_functions : Df K mg "_are_functions" s__are_functions
  d_is_program : Df K mg "is_program" s_is_program
section
variable {P : Program} {w : World} {K : PySem.W.Frag} {mg : Str → Option Value} {base : Heap}
/-! #### readings -/
theorem ev_chainLe {σ : L2.St} {H : Hp} {ta tb tc : TE} {i j k : Int} (ha : Ev ta σ H (.int i)) (hb : Ev tb σ H (.int j)) (hc : Ev tc σ H (.int k)) :
    Ev (tChain (rI0 fun i j => .bl (decide (i ≤ j))) (rI0 fun i j => .bl (decide (i ≤ j))) ta tb tc) σ H (.bl (decide (i ≤ j) && decide (j ≤ k))) := fun H1 e Q q =>
  ha H1 e _ fun H2 e2 => hb H2 (e.trans e2) _ fun H3 e3 => ⟨i, j, rfl, rfl, _, rfl, by
    by_cases c : i ≤ j
    · rw [decide_eq_true c, Bool.true_and] at q
      rw [if_pos (decide_eq_true c)]
      exact hc H3 ((e.trans e2).trans e3) _ fun H4 e4 => ⟨j, k, rfl, rfl, q H4 ((e2.trans e3).trans e4)⟩
    · rw [decide_eq_false c, Bool.false_and] at q
      rw [if_neg (by rw [decide_eq_false c]; exact Bool.false_ne_true)]
      exact q H3 (e2.trans e3)⟩
/-- len(x), x a tuple, or a list -/
theorem rc_lenT {H : Hp} {a : Addr} {xs : List V} (h : SqT K H a xs) : RC (fun xs H Q => ∃ p ys, xs = [.ref p] ∧ (SqL K H p ys ∨ SqT K H p ys) ∧ Q (.int ys.length) H) [.ref a] H (.int (xs.length : Int)) := fun H1 e Q q =>
  ⟨a, xs, rfl, .inr (Evl.ex_t e h), q H1 (Evl.Ex.refl _)⟩
theorem rc_lenL {H : Hp} {a : Addr} {xs : List V} (h : SqL K H a xs) : RC (fun xs H Q => ∃ p ys, xs = [.ref p] ∧ (SqL K H p ys ∨ SqT K H p ys) ∧ Q (.int ys.length) H) [.ref a] H (.int (xs.length : Int)) := fun H1 e Q q =>
  ⟨a, xs, rfl, .inl (Evl.ex_l e h), q H1 (Evl.Ex.refl _)⟩
theorem rv_isN {H : Hp} {x : V} : RV (fun x y H Q => y = .non ∧ Q (.bl (decide (x = .non))) H) x .non H (.bl (decide (x = .non))) := fun H1 _ _ q => ⟨rfl, q H1 (Evl.Ex.refl _)⟩
/-- isinstance(x, t) of a slot's datum -/
theorem ev_isi {σ : L2.St} {H : Hp} {te : TE} {v : V} {d : PyData} {t : String} (hi : Ev te σ H v) (h : Da H v d) (ht : t = "int" ∨ t = "bool" ∨ t = "str" ∨ t = "tuple" ∨ t = "list") :
    Ev (tCB (rIsi K) (tCons te (tCons (tC (.ty t)) tNil))) σ H (.bl (isTy d t)) := ev_cb (ea_cons hi (ea_cons ev_c ea_nil)) (rc_isi h ht)
theorem ev_lenT {σ : L2.St} {H : Hp} {te : TE} {a : Addr} {xs : List V} (hi : Ev te σ H (.ref a)) (h : SqT K H a xs) : Ev (tCB (fun xs H Q => ∃ p ys, xs = [.ref p] ∧ (SqL K H p ys ∨ SqT K H p ys) ∧ Q (.int ys.length) H) (tCons te tNil)) σ H (.int (xs.length : Int)) :=
  ev_cb (ea_cons hi ea_nil) (rc_lenT h)
theorem ev_lenL {σ : L2.St} {H : Hp} {te : TE} {a : Addr} {xs : List V} (hi : Ev te σ H (.ref a)) (h : SqL K H a xs) : Ev (tCB (fun xs H Q => ∃ p ys, xs = [.ref p] ∧ (SqL K H p ys ∨ SqT K H p ys) ∧ Q (.int ys.length) H) (tCons te tNil)) σ H (.int (xs.length : Int)) :=
  ev_cb (ea_cons hi ea_nil) (rc_lenL h)
theorem Da.tupl {H : Hp} {v : V} {ds : List PyData} (h : Da H v (.tuple ds)) : ∃ a xs, v = .ref a ∧ H a = some (.tup xs) ∧ DaAll H xs ds := by
  cases h with
  | tup h1 h2 => exact ⟨_, _, rfl, h1, h2⟩
theorem st_of {H : Hp} {a : Addr} {xs : List V} (h : H a = some (.tup xs)) : SqT K H a xs := .inl (.inl h)
theorem sl_of {H : Hp} {a : Addr} {xs : List V} (h : H a = some (.lst xs)) : SqL K H a xs := .inl (.inl h)
/-! #### integers, limits, tuples -/
def spInteger : Sp := fun vs H Q _ => ∃ v d, vs = [v] ∧ Da H v d ∧ Ret (.bl (isInt d)) H Q
theorem ok_is_integer (T : TProg K w.params mg) : Ok P w K mg base CX0 1 "is_integer" ["thing"] spInteger := by
  refine T.d_is_integer.ok sc_is_integer bi_is_integer (fun vs H Q E h => ?_) (fun cdv A outer s H f vs Q E hr h => ?_)
  · obtain ⟨v, d, rfl, _⟩ := h
    rfl
  · obtain ⟨v, d, rfl, hd, q⟩ := h
    refine ⟨_, (pss_one (ps_ret (pe_and (pe_callB call_isi (by rfl) T.b_isinstance (by decide +kernel) (pa_cons (pv 0) (pa_cons (pe_bltn (by rfl) T.b_int (by decide +kernel) (v := .ty "int") rfl) pa_nil))) (pe_one (pe_not (pe_callB call_isi (by rfl) T.b_isinstance (by decide +kernel) (pa_cons (pv 0) (pa_cons (pe_bltn (by rfl) T.b_bool (by decide +kernel) (v := .ty "bool") rfl) pa_nil)))))))), ?_⟩
    refine s_ret (ev_is (ev_andV (ev_isi (ev_var rfl) hd (.inl rfl)) fun _ => ev_notV (ev_isi (ev_var rfl) hd (.inr (.inl rfl)))) ?_) q
    rw [ty_int, ty_bool]
    cases d <;> rfl
def spWithin : Sp := fun vs H Q _ => ∃ v d lo hi, vs = [v, .int lo, .int hi] ∧ Da H v d ∧ Ret (.bl (isIn d lo hi)) H Q
theorem ok_is_within (T : TProg K w.params mg) : Ok P w K mg base CX0 2 "is_within" ["thing", "low", "high"] spWithin := by
  have G_is_integer : Ok P w K mg base CX0 1 "is_integer" ["thing"] spInteger := ok_is_integer T
  refine T.d_is_within.ok sc_is_within bi_is_within (fun vs H Q E h => ?_) (fun cdv A outer s H f vs Q E hr h => ?_)
  · obtain ⟨v, d, lo, hi, rfl, _⟩ := h
    rfl
  · obtain ⟨v, d, lo, hi, rfl, hd, q⟩ := h
    refine ⟨_, (pss_one (ps_ret (pe_and (pe_callO G_is_integer (hr.mono (by decide)) (pa_cons (pv 0) pa_nil)) (pe_one (pe_chain op_le op_le (pv 1) (pv 0) (pv 2)))))), ?_⟩
    refine s_ret (ev_is (ev_andV (b := isIn d lo hi) (sv_ret (z := .bl (isInt d)) (fun H1 e Q q => ⟨v, d, rfl, hd.ex e, q⟩) (ea_cons (ev_var rfl) ea_nil)) fun hb => ?_) ?_) q
    · cases hd with
      | int i => exact ev_chainLe (ev_var rfl) (ev_var rfl) (ev_var rfl)
      | _ => cases hb
    · cases d <;> rfl
def spIndex : Sp := fun vs H Q _ => ∃ v d n, vs = [v, .int n] ∧ Da H v d ∧ Ret (.bl (isIn d 0 (n - 1))) H Q
theorem ok_is_index (T : TProg K w.params mg) : Ok P w K mg base CX0 3 "is_index" ["thing", "many"] spIndex := by
  have G_is_within : Ok P w K mg base CX0 2 "is_within" ["thing", "low", "high"] spWithin := ok_is_within T
  refine T.d_is_index.ok sc_is_index bi_is_index (fun vs H Q E h => ?_) (fun cdv A outer s H f vs Q E hr h => ?_)
  · obtain ⟨v, d, n, rfl, _⟩ := h
    rfl
  · obtain ⟨v, d, n, rfl, hd, q⟩ := h
    refine ⟨_, (pss_one (ps_ret (pe_callO G_is_within (hr.mono (by decide)) (pa_cons (pv 0) (pa_cons pe_int (pa_cons (pe_op op_sub (pv 1) pe_int) pa_nil)))))), ?_⟩
    exact s_ret (sv_ret (fun H1 e Q q => ⟨v, d, 0, n - 1, rfl, hd.ex e, q⟩) (ea_cons (ev_var rfl) (ea_cons ev_c (ea_cons (ev_op (ev_var rfl) ev_c rv_I0) ea_nil)))) q
def spTuple : Sp := fun vs H Q _ => ∃ v d n, vs = [v, .int n] ∧ Da H v d ∧ Ret (.bl (isTup d n)) H Q
theorem ok_is_tuple (T : TProg K w.params mg) : Ok P w K mg base CX0 1 "is_tuple" ["thing", "size"] spTuple := by
  refine T.d_is_tuple.ok sc_is_tuple bi_is_tuple (fun vs H Q E h => ?_) (fun cdv A outer s H f vs Q E hr h => ?_)
  · obtain ⟨v, d, n, rfl, _⟩ := h
    rfl
  · obtain ⟨v, d, n, rfl, hd, q⟩ := h
    refine ⟨_, (pss_one (ps_ret (pe_and (pe_callB call_isi (by rfl) T.b_isinstance (by decide +kernel) (pa_cons (pv 0) (pa_cons (pe_bltn (by rfl) T.b_tuple (by decide +kernel) (v := .ty "tuple") rfl) pa_nil))) (pe_one (pe_cmpR op_eq (pe_callB call_len_seq (by rfl) T.b_len (by decide +kernel) (pa_cons (pv 0) pa_nil)) (pv 1) (nomark _)))))), ?_⟩
    refine s_ret (ev_is (ev_andV (b := isTup d n) (ev_isi (ev_var rfl) hd (.inr (.inr (.inr (.inl rfl))))) fun hb => ?_) ?_) q
    · cases hd with
      | @tup a xs ds h1 h2 =>
        refine ev_is (ev_op (ev_lenT (ev_var rfl) (st_of h1)) (ev_var rfl) (rv_eq rfl)) ?_
        rw [h2.len]
        show V.bl (decide (V.int _ = V.int n)) = V.bl (decide (_ = n))
        simp
      | _ => rw [ty_tuple] at hb; cases hb
    · rw [ty_tuple]
      cases d <;> rfl
/-! #### the words' kinds -/
def KindsV (K : PySem.W.Frag) (v : V) : Option (List Str) → Prop
  | none => v = .non
  | some ks => ∃ a, v = .ref a ∧ ∀ H, SqT K H a (ks.map V.str)
def spKindsOf (K : PySem.W.Frag) : Sp := fun vs H Q _ => ∃ x b, vs = [.str x, .bl b] ∧ ∀ v, KindsV K v (kindsOf b x) → Ret v H Q
theorem forms_look {kvs : List (Str × V)} {fm : List (Str × List Str)} (h : Paired (fun (kv : Str × V) (e : Str × List Str) => kv.1 = e.1 ∧ ∃ a, kv.2 = .ref a ∧ ∀ H, SqT K H a (e.2.map V.str)) kvs fm) (x : Str) :
    (kvs.lookup x = none ∧ fm.lookup x = none) ∨ ∃ v ks, kvs.lookup x = some v ∧ fm.lookup x = some ks ∧ KindsV K v (some ks) := by
  induction h with
  | nil => exact .inl ⟨rfl, rfl⟩
  | @cons kv e kvs fm h _ ih =>
    obtain ⟨h1, a, h2, h3⟩ := h
    obtain ⟨k, v⟩ := kv
    obtain ⟨k', ks⟩ := e
    dsimp only at h1 h2 h3
    subst h1
    simp only [List.lookup]
    cases c : x == k with
    | true => exact .inr ⟨v, ks, rfl, rfl, a, h2, h3⟩
    | false => exact ih
theorem ok_kinds (T : TProg K w.params mg) : Ok P w K mg base CX0 1 "_kinds" ["word", "in_function"] (spKindsOf K) := by
  obtain ⟨pI, kI, gI, KI, fI⟩ := T.f_I
  obtain ⟨pF, kF, gF, KF, fF⟩ := T.f_F
  refine T.d_kinds.ok sc__kinds bi__kinds (fun vs H Q E h => ?_) (fun cdv A outer s H f vs Q E hr h => ?_)
  · obtain ⟨x, b, rfl, _⟩ := h
    rfl
  · obtain ⟨x, b, rfl, q⟩ := h
    refine ⟨_, (pss_cons (ps_if (pt_cmpR op_inKD (pv 0) (pe_refg gI) (by rfl)) (pss_one (ps_ret (pe_ix ix_KD (pe_refg gI) (pv 0) (fun _ _ => rfl)))) pss_nil)
    (pss_cons (ps_if (PW.pt (pw_and (pt_val (pv 1)) (pw_and1 (pt_cmpR op_inKD (pv 0) (pe_refg gF) (by rfl))))) (pss_one (ps_ret (pe_ix ix_KD (pe_refg gF) (pv 0) (fun _ _ => rfl)))) pss_nil)
    (pss_one (ps_ret pe_non)))), ?_⟩
    have inD : ∀ {p : Addr} {kvs : List (Str × V)} (_ : KD K w.params p kvs) {σ : L2.St} {H : Hp}, σ[0]? = some (some (.str x)) → EvT (tTest (tOp (rInKD K w) (tVar 0) (tC (.ref p)))) σ H (kvs.lookup x).isSome := fun {p kvs} kd {σ H} h0 =>
      et_test (ev_op (ev_var h0) ev_c fun H1 _ _ q => ⟨p, x, kvs, rfl, rfl, kd, q H1 (Evl.Ex.refl _)⟩)
    have ixD : ∀ {p : Addr} {kvs : List (Str × V)} (_ : KD K w.params p kvs) {v : V} {σ : L2.St} {H : Hp}, kvs.lookup x = some v → σ[0]? = some (some (.str x)) → Ev (tOp (rIxKD K w) (tC (.ref p)) (tVar 0)) σ H v := fun {p kvs} kd {v σ H} hv h0 =>
      ev_op ev_c (ev_var h0) fun H1 _ _ q => ⟨p, x, kvs, v, rfl, rfl, kd, hv, q H1 (Evl.Ex.refl _)⟩
    rcases forms_look fI x with ⟨n1, n2⟩ | ⟨v, ks, e1, e2, kv⟩
    · refine q_when (inD KI rfl) (fun hb => by rw [n1] at hb; cases hb) fun _ H1 x1 => ?_
      rcases forms_look fF x with ⟨n3, n4⟩ | ⟨v, ks, e3, e4, kv⟩
      · refine q_when (b := false) (et_is (et_and (et_B (ev_var (v := .bl b) rfl)) fun _ => inD KF rfl) (by rw [n3, Option.isSome_none, Bool.and_false])) (fun hb => by cases hb) fun _ H2 x2 => ?_
        refine s_ret ev_c fun H3 x3 => q .non ?_ H3 ((x1.trans x2).trans x3)
        unfold kindsOf
        rw [n2, n4, Option.isSome_none, Bool.and_false, if_neg Bool.false_ne_true, if_neg Bool.false_ne_true]
        rfl
      · refine q_when (b := b) (et_is (et_and (et_B (ev_var (v := .bl b) rfl)) fun _ => inD KF rfl) (by rw [e3, Option.isSome_some, Bool.and_true])) (fun hb H2 x2 => ?_) fun hb H2 x2 => ?_
        · refine s_ret (ixD KF e3 rfl) fun H3 x3 => q v ?_ H3 ((x1.trans x2).trans x3)
          unfold kindsOf
          rw [n2, e4, hb, Option.isSome_none, if_neg Bool.false_ne_true, Option.isSome_some, Bool.and_true, if_pos rfl]
          exact kv
        · refine s_ret ev_c fun H3 x3 => q .non ?_ H3 ((x1.trans x2).trans x3)
          unfold kindsOf
          rw [n2, hb, Option.isSome_none, Bool.false_and, if_neg Bool.false_ne_true, if_neg Bool.false_ne_true]
          rfl
    · refine q_when (inD KI rfl) (fun _ H1 x1 => ?_) fun hb => by rw [e1] at hb; cases hb
      refine s_ret (ixD KI e1 rfl) fun H2 x2 => q v ?_ H2 (x1.trans x2)
      unfold kindsOf
      rw [e2, Option.isSome_some, if_pos rfl]
      exact kv
/-! #### limits -/
/-- the dict at a tells the limits -/
def Lim (H : Hp) (a : Addr) (l : Lims) (n : Nat) : Prop := ∃ kvs : List (Key × V), H a = some (.dK kvs) ∧ kvs.length ≤ n ∧ ∀ (k : Str) (lo hi : Int), l.lookup k = some (lo, hi) → ∃ t, valV kvs (Sum.inr k) = some (.ref t) ∧ H t = some (.tup [.int lo, .int hi])
theorem Lim.ex {H H' : Hp} {a : Addr} {l : Lims} {n : Nat} (h : Lim H a l n) (e : Ex H H') : Lim H' a l n := by
  obtain ⟨kvs, h1, h0, h2⟩ := h
  exact ⟨kvs, e _ _ h1, h0, fun k lo hi q => by
    obtain ⟨t, h3, h4⟩ := h2 k lo hi q
    exact ⟨t, h3, e _ _ h4⟩⟩
/-- a dict's entry set anew -/
theorem Lim.put {H : Hp} {a t : Addr} {l : Lims} {n : Nat} {k : Str} {lo hi : Int} (L : Lim H a l n) (ht : H t = some (.tup [.int lo, .int hi])) {l' : Lims} (hl : ∀ (j : Str) (x : Int × Int), l'.lookup j = some x → if j = k then x = (lo, hi) else l.lookup j = some x) (hn : n ≤ 1000) :
    ∃ H', DPut H a (.str k) (.ref t) H' ∧ Lim H' a l' (n + 1) ∧ ∀ o b, b ≠ a → H b = some o → H' b = some o := by
  obtain ⟨kvs, h1, h0, h2⟩ := L
  refine ⟨_, DPut.k (k := Sum.inr k) h1 (sz_lt (by omega)), ?_, fun o b hb e => by rw [upd_ne hb]; exact e⟩
  refine ⟨_, upd_same, ?_, fun j lo' hi' q => ?_⟩
  · unfold putK
    split
    · rw [List.length_map]
      omega
    · rw [List.length_append]
      show kvs.length + 1 ≤ n + 1
      omega
  · have z := hl j _ q
    have nt : ∀ {b : Addr} {xs : List V}, H b = some (.tup xs) → b ≠ a := fun hb e => by
      subst e
      rw [h1] at hb
      cases hb
    rw [valV_put]
    by_cases c : j = k
    · rw [if_pos c] at z
      cases z
      subst c
      refine ⟨t, if_pos rfl, ?_⟩
      rw [upd_ne (nt ht)]
      exact ht
    · rw [if_neg c] at z
      obtain ⟨u, h3, h4⟩ := h2 j _ _ z
      refine ⟨u, ?_, ?_⟩
      · rw [if_neg fun e => c (Sum.inr.inj e)]
        exact h3
      · rw [upd_ne (nt h4)]
        exact h4
def spLims : Sp := fun vs H Q _ => ∃ (fa : Addr) (fs : List Int), vs = [.ref fa] ∧ H fa = some (.lst (fs.map V.int)) ∧ ∀ H2 p, H p = none → Ex H H2 → Lim H2 p (limsI fs.length) 3 → Q (.ref p) H2
theorem ok_shared_limits (T : TProg K w.params mg) : Ok P w K mg base CX0 1 "_shared_limits" ["fields"] spLims := by
  refine T.d_shared_limits.ok sc__shared_limits bi__shared_limits (fun vs H Q E h => ?_) (fun cdv A outer s H f vs Q E hr h => ?_)
  · obtain ⟨fa, fs, rfl, _⟩ := h
    rfl
  · obtain ⟨fa, fs, rfl, hf, q⟩ := h
    refine ⟨_, (pss_one (ps_ret (pe_disp (pps_cons pe_str (pe_tup (pa_cons pe_int (pa_cons (pe_const T.c_LAST_SLOT) pa_nil))) (pps_cons pe_str (pe_tup (pa_cons pe_int (pa_cons (pe_const T.c_MOST_NUMBER) pa_nil))) (pps_cons pe_str (pe_tup (pa_cons pe_int (pa_cons (pe_op op_sub (pe_callB call_len_seq (by rfl) T.b_len (by decide +kernel) (pa_cons (pv 0) pa_nil)) pe_int) pa_nil))) pps_nil))) (by rfl) (by rfl) (fun z => by cases z) (by decide)))), ?_⟩
    intro p np
    have nfp : fa ≠ p := ne_of_none hf np
    have e0 : Ex H (upd H p (.dK [])) := Evl.Ex.new np
    refine ⟨sz_of (by show 2 ≤ 100000; decide), fun t1 n1 => ?_⟩
    refine ⟨sz_of (by show 2 ≤ 100000; decide), fun t2 n2 => ?_⟩
    have e1 := Evl.Ex.new n1 (o := .tup [V.int 0, .int 2])
    have e2 := Evl.Ex.new n2 (o := .tup [V.int 0, .int 65535])
    have e02 := (e0.trans e1).trans e2
    refine ⟨_, rfl, fa, _, rfl, .inl (sl_of (e02 _ _ hf)), _, 1, rfl, rfl, sz_of (by show 2 ≤ 100000; decide), fun t3 n3 => ?_⟩
    have e3 := Evl.Ex.new n3 (o := .tup [V.int 0, .int (((fs.map V.int).length : Int) - 1)])
    have hp : (upd (upd (upd (upd H p (.dK [])) t1 (.tup [V.int 0, .int 2])) t2 (.tup [V.int 0, .int 65535])) t3 (.tup [V.int 0, .int (((fs.map V.int).length : Int) - 1)])) p = some (.dK []) := e3 _ _ (e2 _ _ (e1 _ _ upd_same))
    have h1 := e3 _ _ (e2 _ _ (upd_same (H := upd H p (.dK [])) (a := t1) (o := .tup [V.int 0, .int 2])))
    have h2 := e3 _ _ (upd_same (H := upd (upd H p (.dK [])) t1 (.tup [V.int 0, .int 2])) (a := t2) (o := .tup [V.int 0, .int 65535]))
    refine ⟨hp, [(Sum.inr "slot", .ref t1), (Sum.inr "number", .ref t2), (Sum.inr "unit", .ref t3)], rfl, (by show 3 ≤ 15; decide), ?_⟩
    refine q _ p np (fun b o hb => ?_) ⟨_, upd_same, (show (3 : Nat) ≤ 3 from Nat.le_refl 3), fun k lo hi hk => ?_⟩
    · have nb : b ≠ p := ne_of_none hb np
      rw [upd_ne nb]
      exact (e02.trans e3) _ _ hb
    · have nt : ∀ {b : Addr} {xs : List V}, (upd (upd (upd (upd H p (.dK [])) t1 (.tup [V.int 0, .int 2])) t2 (.tup [V.int 0, .int 65535])) t3 (.tup [V.int 0, .int (((fs.map V.int).length : Int) - 1)])) b = some (.tup xs) → b ≠ p := fun hb e => by
        subst e
        rw [hp] at hb
        cases hb
      have three : (k = "slot" ∧ (lo, hi) = (0, 2)) ∨ (k = "number" ∧ (lo, hi) = (0, 65535)) ∨ (k = "unit" ∧ (lo, hi) = (0, (fs.length : Int) - 1)) := by
        simp only [limsI, List.lookup] at hk
        split at hk
        · rename_i c
          exact .inl ⟨eq_of_beq c, (Option.some.inj hk).symm⟩
        · split at hk
          · rename_i c
            exact .inr (.inl ⟨eq_of_beq c, (Option.some.inj hk).symm⟩)
          · split at hk
            · rename_i c
              exact .inr (.inr ⟨eq_of_beq c, (Option.some.inj hk).symm⟩)
            · cases hk
      rcases three with ⟨rfl, e⟩ | ⟨rfl, e⟩ | ⟨rfl, e⟩
      · cases e
        exact ⟨t1, rfl, by rw [upd_ne (nt h1)]; exact h1⟩
      · cases e
        exact ⟨t2, rfl, by rw [upd_ne (nt h2)]; exact h2⟩
      · obtain ⟨rfl, rfl⟩ := Prod.mk.inj e
        refine ⟨t3, rfl, ?_⟩
        rw [upd_ne (nt upd_same), upd_same, List.length_map]
end
end FW
set_option Elab.async false
set_option linter.all false
set_option maxRecDepth 100000
set_option maxHeartbeats 4000000
namespace FW
open PySem PySem.Spec PyProof.Rows L2
open Evl (pss_cut tCut)
open Evl (Ex Ev EvT EvA EvL EvU RC RV fresh_back ev_var ev_c ea_nil ea_cons ev_cb ev_op ev_is ev_andV ev_orV ev_notV et_test et_B et_and et_or et_not et_is s_ret s_when q_when q_asg q_asgL q_asgU rv_I0 rv_eq rv_ne rv_ixT rv_ixL)
section
variable {P : Program} {w : World} {K : PySem.W.Frag} {mg : Str → Option Value} {base : Heap}
/-! #### an instruction -/
def LimOk (b : Bool) (lims : Lims) (n : Nat) : Prop := lims.lookup ("unit" : Str) = some (0, (n : Int) - 1) ∧ ∀ k ∈ needed b, (lims.lookup k).isSome = true
def spInstr (K : PySem.W.Frag) : Sp := fun vs H Q _ => ∃ (v : V) (d : PyData) (b : Bool) (la fa : Addr) (fs : List Int) (lims : Lims) (n : Nat), vs = [v, .bl b, .ref la, .ref fa] ∧ Da H v d ∧ Lim H la lims n ∧ H fa = some (.lst (fs.map V.int)) ∧ LimOk b lims fs.length ∧ Ret (.bl (okIns b lims fs d)) H Q
def hd1 (d : PyData) : Bool := match d with
  | .tuple (.str _ :: _) => true
  | _ => false
theorem okIns_hd {b : Bool} {lims : Lims} {fs : List Int} {d : PyData} (h : hd1 d = false) : okIns b lims fs d = false := by
  cases d with
  | tuple ds =>
    cases ds with
    | nil => rfl
    | cons d0 r =>
      cases d0 with
      | str x => cases h
      | _ => rfl
  | _ => rfl
theorem hd1_is {d : PyData} (h : hd1 d = true) : ∃ x r, d = .tuple (.str x :: r) := by
  unfold hd1 at h
  split at h
  · exact ⟨_, _, rfl⟩
  · cases h
theorem ok_is_instruction (T : TProg K w.params mg) : Ok P w K mg base CX0 3 "_is_instruction" ["thing", "in_function", "limits", "fields"] (spInstr K) := by
  have G__kinds : Ok P w K mg base CX0 1 "_kinds" ["word", "in_function"] (spKindsOf K) := ok_kinds T
  have G_is_within : Ok P w K mg base CX0 2 "is_within" ["thing", "low", "high"] spWithin := ok_is_within T
  refine T.d_is_instruction.ok sc__is_instruction bi__is_instruction (fun vs H Q E h => ?_) (fun cdv A outer s H f vs Q E hr h => ?_)
  · obtain ⟨v, d, b, la, fa, fs, lims, n, rfl, _⟩ := h
    rfl
  · obtain ⟨v, d, b, la, fa, fs, lims, n, rfl, hd, hl, hf, ⟨hu, hc⟩, q⟩ := h
    refine ⟨_, (pss_cons (ps_if (pt_not (PW.pt (pw_and (pt_val (pe_callB call_isi (by rfl) T.b_isinstance (by decide +kernel) (pa_cons (pv 0) (pa_cons (pe_bltn (by rfl) T.b_tuple (by decide +kernel) (v := .ty "tuple") rfl) pa_nil)))) (pw_and (pt_cmpR op_gt (pe_callB call_len_seq (by rfl) T.b_len (by decide +kernel) (pa_cons (pv 0) pa_nil)) pe_int (nomark _)) (pw_and1 (pt_val (pe_callB call_isi (by rfl) T.b_isinstance (by decide +kernel) (pa_cons (pe_ix ix_tup (pv 0) pe_int (fun _ _ => rfl)) (pa_cons (pe_bltn (by rfl) T.b_str (by decide +kernel) (v := .ty "str") rfl) pa_nil))))))))) (pss_one (ps_ret pe_bl)) pss_nil)
    (pss_cons (ps_set (i := 4) sc__is_instruction.nd rfl (Or.inl rfl) (pe_callO G__kinds (hr.mono (by decide)) (pa_cons (pe_ix ix_tup (pv 0) pe_int (fun _ _ => rfl)) (pa_cons (pv 1) pa_nil))))
    (pss_cons (ps_if (PW.pt (pw_or (pt_cmpR op_isN (pv 4) pe_non (nomark _)) (pw_or1 (pt_cmpR op_ne (pe_callB call_len_seq (by rfl) T.b_len (by decide +kernel) (pa_cons (pv 0) pa_nil)) (pe_op op_add (pe_callB call_len_seq (by rfl) T.b_len (by decide +kernel) (pa_cons (pv 4) pa_nil)) pe_int) (nomark _))))) (pss_one (ps_ret pe_bl)) pss_nil)
    (pss_cons (ps_for PassesOwn.never rfl (pi_enumT (by rfl) T.b_enumerate (pa_cons (pv 4) pa_nil)) (pg_tup rfl (pgs_cons (pg_name (i := 5) sc__is_instruction.nd rfl (Or.inl rfl)) (pgs_cons (pg_name (i := 6) sc__is_instruction.nd rfl (Or.inl rfl)) pgs_nil))) (pss_cons (ps_asg (pe_ifExp (pt_cmpR op_eq (pv 6) pe_str (nomark _)) (pe_tup (pa_cons pe_int (pa_cons (pe_op op_sub (pe_ix ix_list (pv 3) (pe_ix ix_tup (pv 0) (pv 5) (fun _ _ => rfl)) (fun _ _ => rfl)) pe_int) pa_nil))) (pe_dget (hu_of hr) (pv 2) (pv 6) (fun _ _ => rfl))) (pg_tup rfl (pgs_cons (pg_name (i := 7) sc__is_instruction.nd rfl (Or.inl rfl)) (pgs_cons (pg_name (i := 8) sc__is_instruction.nd rfl (Or.inl rfl)) pgs_nil))))
    (pss_one (ps_if (pt_not (pt_val (pe_callO G_is_within (hr.mono (by decide)) (pa_cons (pe_ix ix_tup (pv 0) (pe_op op_add (pv 5) pe_int) (fun _ _ => rfl)) (pa_cons (pv 7) (pa_cons (pv 8) pa_nil)))))) (pss_one (ps_ret pe_bl)) pss_nil))))
    (pss_one (ps_ret pe_bl)))))), ?_⟩
    refine q_when (b := !hd1 d) (et_not ?_) (fun hb H1 x1 => ?_) (fun hb H1 x1 => ?_)
    · -- the first test
      cases hd with
      | @tup a xs ds h1 h2 =>
        have t1 := fun {H'} (x : Ex H H') => ev_isi (K := K) (te := tVar 0) (σ := start N__is_instruction [V.ref a, .bl b, .ref la, .ref fa]) (ev_var rfl) ((Da.tup h1 h2).ex x) (t := "tuple") (.inr (.inr (.inr (.inl rfl))))
        refine et_is (et_and (a := true) (b := hd1 (.tuple ds)) (et_is (et_B (t1 (Evl.Ex.refl _))) (by rw [ty_tuple])) fun _ => ?_) (Bool.true_and _)
        cases h2 with
        | nil => exact et_is (et_and (a := false) (b := true) (et_test (ev_op (ev_lenT (ev_var rfl) (st_of h1)) ev_c rv_I0)) fun z => by cases z) rfl
        | @cons v0 vs0 d0 ds0 g1 g2 =>
          refine et_is (et_and (a := true) (b := isTy d0 "str") (et_is (et_test (ev_op (ev_lenT (ev_var rfl) (st_of h1)) ev_c rv_I0)) ?_) fun _ => et_B (ev_isi (ev_op (ev_var rfl) ev_c (rv_ixT (st_of h1) (atI_nat (j := 0) rfl))) g1 (.inr (.inr (.inl rfl))))) ?_
          · exact decide_eq_true (by rw [List.length_cons]; omega)
          · rw [ty_str, Bool.true_and]
            cases d0 <;> rfl
      | non => exact et_is (et_and (a := false) (b := true) (et_is (et_B (ev_isi (ev_var rfl) .non (.inr (.inr (.inr (.inl rfl)))))) (by rw [ty_tuple])) fun z => by cases z) rfl
      | bl x => exact et_is (et_and (a := false) (b := true) (et_is (et_B (ev_isi (ev_var rfl) (.bl x) (.inr (.inr (.inr (.inl rfl)))))) (by rw [ty_tuple])) fun z => by cases z) rfl
      | int x => exact et_is (et_and (a := false) (b := true) (et_is (et_B (ev_isi (ev_var rfl) (.int x) (.inr (.inr (.inr (.inl rfl)))))) (by rw [ty_tuple])) fun z => by cases z) rfl
      | str x => exact et_is (et_and (a := false) (b := true) (et_is (et_B (ev_isi (ev_var rfl) (.str x) (.inr (.inr (.inr (.inl rfl)))))) (by rw [ty_tuple])) fun z => by cases z) rfl
      | lst h1 h2 => exact et_is (et_and (a := false) (b := true) (et_is (et_B (ev_isi (ev_var rfl) (.lst h1 h2) (.inr (.inr (.inr (.inl rfl)))))) (by rw [ty_tuple])) fun z => by cases z) rfl
      | dic h1 => exact et_is (et_and (a := false) (b := true) (et_is (et_B (ev_isi (ev_var rfl) (.dic h1) (.inr (.inr (.inr (.inl rfl)))))) (by rw [ty_tuple])) fun z => by cases z) rfl
    · -- return False
      have hb' : hd1 d = false := by cases e : hd1 d <;> rw [e] at hb <;> first | rfl | cases hb
      rw [okIns_hd hb'] at q
      exact s_ret ev_c fun H2 x2 => q H2 (x1.trans x2)
    · have hb' : hd1 d = true := by cases e : hd1 d <;> rw [e] at hb <;> first | rfl | cases hb
      obtain ⟨x, r, rfl⟩ := hd1_is hb'
      obtain ⟨a, xs, rfl, ha, hds⟩ := Da.tupl (hd.ex x1)
      obtain ⟨v0, vs0, rfl⟩ : ∃ v0 vs0, xs = v0 :: vs0 := by
        cases hds with
        | cons _ _ => exact ⟨_, _, rfl⟩
      have hv0 : v0 = .str x := by
        cases hds with
        | cons g _ =>
          cases g
          rfl
      subst hv0
      have hlen : vs0.length = r.length := by
        have := hds.len
        rw [List.length_cons, List.length_cons] at this
        omega
      -- kinds = _kinds(thing[0], in_function)
      refine ⟨_, rfl, a, _, 0, .str x, rfl, rfl, st_of ha, atI_nat (j := 0) rfl, _, rfl, x, b, rfl, fun kv hkv H2 x2 => ?_⟩
      have q2 : ∀ z, okIns b lims fs (.tuple (.str x :: r)) = z → Ret (.bl z) H2 Q := fun z e H3 x3 => by
        rw [← e]
        exact q H3 ((x1.trans x2).trans x3)
      have ha2 := x2 _ _ ha
      have hl2 := hl.ex (x1.trans x2)
      have hf2 := x2 _ _ (x1 _ _ hf)
      have hds2 := hds.ex x2
      cases ek : kindsOf b x with
      | none =>
        rw [ek] at hkv
        have ekv : kv = .non := hkv
        subst ekv
        have e0 : okIns b lims fs (.tuple (.str x :: r)) = false := by
          show (match kindsOf b x with | some ks => decide (r.length = ks.length) && okOps lims fs (.str x :: r) ks | none => false) = false
          rw [ek]
        refine q_when (b := true) (et_is (et_or (a := true) (b := true) (et_is (et_test (ev_op (ev_var rfl) ev_c rv_isN)) rfl) fun z => by cases z) rfl) (fun _ H3 x3 => s_ret ev_c fun H4 x4 => q2 false e0 H4 (x3.trans x4)) (fun z => by cases z)
      | some ks =>
        rw [ek] at hkv
        obtain ⟨ka, rfl, hka⟩ := hkv
        have e0 : okIns b lims fs (.tuple (.str x :: r)) = (decide (r.length = ks.length) && okOps lims fs (.str x :: r) ks) := by
          show (match kindsOf b x with | some ks => decide (r.length = ks.length) && okOps lims fs (.str x :: r) ks | none => false) = _
          rw [ek]
        have good := kinds_good ek
        refine q_when (b := !decide (r.length = ks.length)) (et_is (et_or (a := false) (b := !decide (r.length = ks.length)) (et_is (et_test (ev_op (ev_var rfl) ev_c rv_isN)) (decide_eq_false fun z => by cases z)) fun _ =>
          et_is (et_test (ev_op (ev_lenT (ev_var rfl) (st_of ha2)) (ev_op (ev_lenT (ev_var rfl) (hka _)) ev_c rv_I0) (rv_ne rfl))) ?_) (Bool.false_or _)) (fun hb H3 x3 => ?_) (fun hb H3 x3 => ?_)
        · rw [List.length_map, List.length_cons, hlen]
          by_cases c : r.length = ks.length
          · rw [decide_eq_true c, c]
            exact congrArg (! ·) (decide_eq_true rfl)
          · rw [decide_eq_false c]
            refine congrArg (! ·) (decide_eq_false fun z => c ?_)
            have := V.int.inj z
            omega
        · refine s_ret ev_c fun H4 x4 => q2 false ?_ H4 (x3.trans x4)
          rw [e0]
          cases c : decide (r.length = ks.length) with
          | false => rfl
          | true =>
            rw [c] at hb
            cases hb
        · have hrk : r.length = ks.length := by
            cases c : decide (r.length = ks.length) with
            | false =>
              rw [c] at hb
              cases hb
            | true => exact of_decide_eq_true c
          have e1 : okIns b lims fs (.tuple (.str x :: r)) = okOps lims fs (.str x :: r) ks := by rw [e0, decide_eq_true hrk, Bool.true_and]
          have ha3 := x3 _ _ ha2
          have hl3 := hl2.ex x3
          have hf3 := x3 _ _ hf2
          have hds3 := hds2.ex x3
          -- for at, kind in enumerate(kinds)
          refine ⟨_, rfl, ka, _, rfl, hka _, ?_⟩
          refine for_it walk_enumT (fun i σ H' => ∃ y5 y6 y7 y8, σ = [some (.ref a), some (.bl b), some (.ref la), some (.ref fa), some (.ref ka), y5, y6, y7, y8] ∧ Ex H3 H' ∧ ∀ j, j < i → okOp lims fs ((PyData.str x :: r).getD j .none) (ks.getD j "") ((PyData.str x :: r).getD (j + 1) .none) = true)
            ⟨none, none, none, none, rfl, Evl.Ex.refl _, fun j hj => absurd hj (Nat.not_lt_zero _)⟩ (fun i σ H' _ _ => hka _) ?_ ?_
          · rintro i y σ H4 H4' hi ⟨y5, y6, y7, y8, rfl, x4, done⟩ ⟨T', z1, z2, rfl, nT, rfl, f1, f2⟩
            obtain rfl : z1 = .int (i : Nat) := (Option.some.inj f1).symm
            rw [List.length_map] at hi
            have hki : ks[i]? = some ks[i] := List.getElem?_eq_getElem hi
            obtain rfl : z2 = .str ks[i] := by
              have f3 : (ks.map V.str)[i]? = some z2 := f2
              rw [List.getElem?_map, hki] at f3
              exact (Option.some.inj f3).symm
            have xT := Evl.Ex.new nT (o := .tup [V.int (i : Nat), .str ks[i]])
            have x5 := x4.trans xT
            have ha5 := x5 _ _ ha3
            have hl5 := hl3.ex x5
            have hf5 := x5 _ _ hf3
            have hds5 := hds3.ex x5
            refine ⟨T', _, rfl, .inl (.inl upd_same), rfl, _, _, rfl, _, _, rfl, rfl, ?_⟩
            generalize upd H4 T' (.tup [V.int (i : Nat), .str ks[i]]) = H5 at xT x5 ha5 hl5 hf5 hds5 ⊢
            -- the operand at + 1
            have hr1 : i + 1 < (PyData.str x :: r).length := by rw [List.length_cons]; omega
            obtain ⟨vn, hvn, dvn⟩ := hds5.of (List.getElem?_eq_getElem hr1)
            have gkind : ks.getD i "" = ks[i] := getD_at hki
            have gnext : (PyData.str x :: r).getD (i + 1) .none = (PyData.str x :: r)[i + 1] := getD_at (List.getElem?_eq_getElem hr1)
            -- what stands behind the operand's limits
            have rest : ∀ (lo up : Int) (y7 y8 : Option V) (H6 : Hp), Ex H5 H6 → okOp lims fs ((PyData.str x :: r).getD i .none) (ks.getD i "") ((PyData.str x :: r).getD (i + 1) .none) = isIn ((PyData.str x :: r)[i + 1]) lo up → ∀ D : Ends, D.rt = Q →
                (∀ H7, Ex H3 H7 → (∀ j, j < i + 1 → okOp lims fs ((PyData.str x :: r).getD j .none) (ks.getD j "") ((PyData.str x :: r).getD (j + 1) .none) = true) → D.nx [some (.ref a), some (.bl b), some (.ref la), some (.ref fa), some (.ref ka), some (.int (i : Nat)), some (.str ks[i]), some (.int lo), some (.int up)] H7) →
                tIfS (tNot (tB (tCall spWithin [] E0 (tCons (tOp (rIxT K) (tVar 0) (tOp (rI0 fun i j => .int (i + j)) (tVar 5) (tC (.int 1)))) (tCons (tVar 7) (tCons (tVar 8) tNil)))))) (tRet (tC (.bl false))) tNext D
                  [some (.ref a), some (.bl b), some (.ref la), some (.ref fa), some (.ref ka), some (.int (i : Nat)), some (.str ks[i]), some (.int lo), some (.int up)] H6 := by
              intro lo up y7 y8 H6 x6 eop D eD nx
              refine s_when (b := !isIn ((PyData.str x :: r)[i + 1]) lo up) (et_not (et_B (sv_ret (z := .bl (isIn ((PyData.str x :: r)[i + 1]) lo up)) (fun H1 e Q q => ⟨vn, _, lo, up, rfl, (dvn.ex x6).ex e, q⟩)
                (ea_cons (ev_op (ev_var rfl) (ev_op (ev_var rfl) ev_c rv_I0) (rv_ixT (st_of (x6 _ _ ha5)) (atI_nat hvn))) (ea_cons (ev_var rfl) (ea_cons (ev_var rfl) ea_nil)))))) (fun hb H7 x7 => ?_) (fun hb H7 x7 => ?_)
              · refine s_ret ev_c fun H8 x8 => ?_
                rw [eD]
                refine q2 false ?_ H8 (((x3.trans (x5.trans x6)).trans x7).trans x8)
                rw [e1]
                refine okOps_no hi ?_
                rw [eop]
                cases c : isIn ((PyData.str x :: r)[i + 1]) lo up with
                | false => rfl
                | true =>
                  rw [c] at hb
                  cases hb
              · refine nx H7 ((x5.trans x6).trans x7) fun j hj => ?_
                by_cases c : j < i
                · exact done j c
                · have ej : j = i := by omega
                  subst ej
                  rw [eop]
                  cases c : isIn ((PyData.str x :: r)[j + 1]) lo up with
                  | true => rfl
                  | false =>
                    rw [c] at hb
                    cases hb
            by_cases c : ks[i] = "field"
            · -- the field of the unit before
              have hkf : ks[i]? = some ("field" : Str) := by rw [hki, c]
              obtain ⟨ip, hku⟩ := good_field good hkf
              have prev := done (i - 1) (by omega)
              rw [getD_at hku] at prev
              have hr0 : i < (PyData.str x :: r).length := by omega
              rw [show i - 1 + 1 = i by omega, getD_at (List.getElem?_eq_getElem hr0)] at prev
              unfold okOp at prev
              rw [if_neg (by decide), hu] at prev
              obtain ⟨u, eu, u0, u1⟩ := isIn_int prev
              obtain ⟨vu, hvu, dvu⟩ := hds5.of (List.getElem?_eq_getElem hr0)
              rw [eu] at dvu
              obtain rfl : vu = .int u := by cases dvu; rfl
              obtain ⟨fz, _, hfz⟩ := ints_at (ns := fs) u0 (by omega)
              have efz : fs.getD u.toNat 0 = fz := by
                obtain ⟨k, rfl⟩ := Int.eq_ofNat_of_zero_le u0
                have hk : k < fs.length := by omega
                rw [Int.toNat_natCast, getD_at (List.getElem?_eq_getElem hk)]
                have z := hfz.symm.trans (atI_nat (xs := fs.map V.int) (j := k) (v := .int fs[k]) (by rw [List.getElem?_map, List.getElem?_eq_getElem hk]; rfl))
                exact (V.int.inj (Option.some.inj z)).symm
              refine ⟨_, rfl, rfl, _, rfl, ite2 (fun _ => ?_) (fun z => absurd (decide_eq_true (congrArg V.str c)) z)⟩
              refine ⟨_, rfl, _, rfl, _, rfl, a, _, i, .int u, rfl, rfl, st_of ha5, atI_nat hvu, fa, _, u, .int fz, rfl, rfl, sl_of hf5, hfz, fz, 1, rfl, rfl, sz_of (by show 2 ≤ 100000; decide), fun p np => ?_⟩
              refine ⟨p, _, rfl, .inl (.inl upd_same), rfl, _, _, rfl, _, _, rfl, rfl, ?_⟩
              refine rest 0 (fz - 1) none none _ (Evl.Ex.new np) ?_ _ rfl fun H7 x7 all => ⟨_, _, _, _, rfl, x7, all⟩
              unfold okOp
              rw [gkind, if_pos c, getD_at (List.getElem?_eq_getElem hr0), eu, gnext]
              show isIn _ 0 (fs.getD u.toNat 0 - 1) = _
              rw [efz]
            · -- limits[kind]
              have mk : ks[i] ∈ needed b := good_needed good (List.getElem_mem hi) c
              obtain ⟨⟨lo, hi'⟩, elk⟩ := Option.isSome_iff_exists.mp (hc _ mk)
              obtain ⟨kvs, g1, _, g2⟩ := hl5
              obtain ⟨t, g3, g4⟩ := g2 _ _ _ elk
              refine ⟨_, rfl, rfl, _, rfl, ite2 (fun z => absurd (V.str.inj (of_decide_eq_true z)) c) (fun _ => ?_)⟩
              refine ⟨_, rfl, _, rfl, la, .ref t, rfl, .inl ⟨kvs, Sum.inr ks[i], .inl g1, rfl, g3.symm⟩, ?_⟩
              refine ⟨t, _, rfl, st_of g4, rfl, _, _, rfl, _, _, rfl, rfl, ?_⟩
              refine rest lo hi' none none _ (Evl.Ex.refl _) ?_ _ rfl fun H7 x7 all => ⟨_, _, _, _, rfl, x7, all⟩
              unfold okOp
              rw [gkind, if_neg c, elk, gnext]
          · rintro σ H4 ⟨y5, y6, y7, y8, rfl, x4, done⟩
            rw [List.length_map] at done
            show Q (V.bl true) H4
            refine q2 true ?_ H4 (x3.trans x4)
            rw [e1]
            exact okOps_yes done
/-! #### an initializer -/
theorem limOk_I {n : Nat} : LimOk false (limsI n) n := ⟨rfl, fun k hk => by
  have m : k = "slot" ∨ k = "number" ∨ k = "unit" := by simpa [needed] using hk
  rcases m with rfl | rfl | rfl <;> rfl⟩
theorem limOk_F {n size : Nat} {own nf place : Int} : LimOk true (limsF n size own nf place) n := ⟨rfl, fun k hk => by
  have m : k = "slot" ∨ k = "number" ∨ k = "unit" ∨ k = "place" ∨ k = "later function" ∨ k = "later place" := by simpa [needed] using hk
  rcases m with rfl | rfl | rfl | rfl | rfl | rfl <;> rfl⟩
def spInit : Sp := fun vs H Q _ => ∃ (v : V) (d : PyData) (fa : Addr) (fs : List Int), vs = [v, .ref fa] ∧ Da H v d ∧ H fa = some (.lst (fs.map V.int)) ∧ Ret (.bl (okInit fs d)) H Q
/-- whether a datum is a tuple with a length that pleases -/
def tupLen (g : Nat → Bool) (d : PyData) : Bool := match d with
  | .tuple ds => g ds.length
  | _ => false
theorem et_tupLen {σ : L2.St} {H : Hp} {v : V} {d : PyData} {t2 : TT} {g : Nat → Bool} (h0 : σ[0]? = some (some v)) (hd : Da H v d) (h : ∀ a xs, v = .ref a → H a = some (.tup xs) → EvT t2 σ H (g xs.length)) :
    EvT (tAnd (tB (tCB (rIsi K) (tCons (tVar 0) (tCons (tC (.ty "tuple")) tNil)))) t2) σ H (tupLen g d) := by
  refine et_is (et_and (b := tupLen g d) (et_B (ev_isi (ev_var h0) hd (.inr (.inr (.inr (.inl rfl)))))) fun hb => ?_) ?_
  · cases hd with
    | @tup a xs ds h1 h2 =>
      have z := h a xs rfl h1
      rw [h2.len] at z
      exact z
    | _ => rw [ty_tuple] at hb; cases hb
  · rw [ty_tuple]
    cases d <;> rfl
theorem not_true {b : Bool} (h : (!b) = true) : b = false := by cases b <;> first | rfl | cases h
theorem not_false {b : Bool} (h : (!b) = false) : b = true := by cases b <;> first | rfl | cases h
theorem ok_is_initializer (T : TProg K w.params mg) : Ok P w K mg base CX0 4 "_is_initializer" ["thing", "fields"] spInit := by
  have G__shared_limits : Ok P w K mg base CX0 1 "_shared_limits" ["fields"] spLims := ok_shared_limits T
  have G__is_instruction : Ok P w K mg base CX0 3 "_is_instruction" ["thing", "in_function", "limits", "fields"] (spInstr K) := ok_is_instruction T
  refine T.d_is_initializer.ok sc__is_initializer bi__is_initializer (fun vs H Q E h => ?_) (fun cdv A outer s H f vs Q E hr h => ?_)
  · obtain ⟨v, d, fa, fs, rfl, _⟩ := h
    rfl
  · obtain ⟨v, d, fa, fs, rfl, hd, hf, q⟩ := h
    refine ⟨_, (pss_cons (ps_if (pt_not (PW.pt (pw_and (pt_val (pe_callB call_isi (by rfl) T.b_isinstance (by decide +kernel) (pa_cons (pv 0) (pa_cons (pe_bltn (by rfl) T.b_tuple (by decide +kernel) (v := .ty "tuple") rfl) pa_nil)))) (pw_and1 (pt_cmpR op_le (pe_callB call_len_seq (by rfl) T.b_len (by decide +kernel) (pa_cons (pv 0) pa_nil)) (pe_const T.c_MOST_IN_INITIALIZER) (nomark _)))))) (pss_one (ps_ret pe_bl)) pss_nil)
    (pss_cons (ps_set (i := 2) sc__is_initializer.nd rfl (Or.inr rfl) (pe_callO G__shared_limits (hr.mono (by decide)) (pa_cons (pv 1) pa_nil)))
    (pss_one (ps_ret (pe_callB (cr_all rfl) (by rfl) T.b_all (by decide +kernel) (pa_cons (pe_lc (own := [("member", 3)]) rfl sc__is_initializer.nd (pi_tup (pv 0)) (blkOk_by (N := N__is_initializer) (sc := defScope s__is_initializer) (by decide +kernel)) (fun _ _ _ _ _ => (pg_name (i := 3) sc__is_initializer.nd rfl (Or.inl rfl))) (fun _ _ _ _ _ => pts_nil) (fun _ _ _ _ _ => (pe_callO G__is_instruction (hr.mono (by decide)) (pa_cons (pv 3) (pa_cons pe_bl (pa_cons (pv 2) (pa_cons (pv 1) pa_nil))))))) pa_nil)))))), ?_⟩
    refine q_when (b := !tupLen (fun n => decide ((n : Int) ≤ 6)) d) (et_not (et_tupLen rfl hd fun a xs ev h1 => by
      subst ev
      exact et_test (ev_op (ev_lenT (ev_var rfl) (st_of h1)) ev_c rv_I0))) (fun hb H1 x1 => ?_) (fun hb H1 x1 => ?_)
    · have z := not_true hb
      have e : okInit fs d = false := by
        cases d with
        | tuple ds =>
          have z' := of_decide_eq_false z
          show (decide (ds.length ≤ 6) && _) = false
          rw [decide_eq_false (fun h => z' (by omega)), Bool.false_and]
        | _ => rfl
      rw [e] at q
      exact s_ret ev_c fun H2 x2 => q H2 (x1.trans x2)
    · have z := not_false hb
      cases hd with
      | @tup a xs ds h1 h2 =>
        have z' := of_decide_eq_true z
        have hlen : ds.length ≤ 6 := by omega
        refine ⟨_, rfl, fa, fs, rfl, x1 _ _ hf, fun H2 p np x2 hl => ?_⟩
        have x12 := x1.trans x2
        have hx := h2.len
        have el := el_lcT (K := K) (xs := xs) (te := tCall (spInstr K) [] E0 (tCons (tVar 3) (tCons (tC (.bl false)) (tCons (tVar 2) (tCons (tVar 1) tNil))))) (σ := [some (.ref a), some (.ref fa), some (.ref p), none]) (H := H2) (tx := tVar 0) (j := 3) (vs := [3])
          (fun i => .bl (okIns false (limsI fs.length) fs (ds.getD i .none))) (ev_var rfl) (st_of (x12 _ _ h1)) (by rw [hx]; omega) (fun _ => rfl) (fun k x H3 x3 hk => by
            obtain ⟨dk, e1, dd⟩ := h2.at hk
            rw [getD_at e1]
            exact sv_ret (fun H4 e Q q => ⟨x, dk, false, p, fa, fs, limsI fs.length, 3, rfl, ((dd.ex x12).ex x3).ex e, (hl.ex x3).ex e, e _ _ (x3 _ _ (x12 _ _ hf)), limOk_I, q⟩) (ea_cons (ev_var rfl) (ea_cons ev_c (ea_cons (ev_var rfl) (ea_cons (ev_var rfl) ea_nil)))))
        rw [bl_map] at el
        refine s_ret (ev_is (ev_allN (elw_new el)) ?_) fun H3 x3 => q H3 (x12.trans x3)
        rw [all_map, hx, all_at]
        show V.bl _ = V.bl (decide (ds.length ≤ 6) && _)
        rw [decide_eq_true hlen, Bool.true_and]
      | _ => cases z
/-! #### a function's code -/
def spCode : Sp := fun vs H Q _ => ∃ (v : V) (d : PyData) (own nf : Int) (fa : Addr) (fs : List Int), vs = [v, .int own, .int nf, .ref fa] ∧ Da H v d ∧ H fa = some (.lst (fs.map V.int)) ∧ Ret (.bl (okCode own nf fs d)) H Q
theorem ok_is_code (T : TProg K w.params mg) : Ok P w K mg base CX0 4 "_is_code" ["thing", "own", "functions", "fields"] spCode := by
  have G__shared_limits : Ok P w K mg base CX0 1 "_shared_limits" ["fields"] spLims := ok_shared_limits T
  have G__is_instruction : Ok P w K mg base CX0 3 "_is_instruction" ["thing", "in_function", "limits", "fields"] (spInstr K) := ok_is_instruction T
  refine T.d_is_code.ok sc__is_code bi__is_code (fun vs H Q E h => ?_) (fun cdv A outer s H f vs Q E hr h => ?_)
  · obtain ⟨v, d, own, nf, fa, fs, rfl, _⟩ := h
    rfl
  · obtain ⟨v, d, own, nf, fa, fs, rfl, hd, hf, q⟩ := h
    refine ⟨_, (pss_cons (ps_if (pt_not (PW.pt (pw_and (pt_val (pe_callB call_isi (by rfl) T.b_isinstance (by decide +kernel) (pa_cons (pv 0) (pa_cons (pe_bltn (by rfl) T.b_tuple (by decide +kernel) (v := .ty "tuple") rfl) pa_nil)))) (pw_and1 (pt_chain op_le op_le pe_int (pe_callB call_len_seq (by rfl) T.b_len (by decide +kernel) (pa_cons (pv 0) pa_nil)) (pe_const T.c_MOST_IN_FUNCTION)))))) (pss_one (ps_ret pe_bl)) pss_nil)
    (pss_cons (ps_set (i := 4) sc__is_code.nd rfl (Or.inl rfl) (pe_callO G__shared_limits (hr.mono (by decide)) (pa_cons (pv 3) pa_nil)))
    (pss_cons (ps_dput (hu_of hr) (pv 4) pe_str (pe_tup (pa_cons pe_int (pa_cons (pe_callB call_len_seq (by rfl) T.b_len (by decide +kernel) (pa_cons (pv 0) pa_nil)) pa_nil))) rfl)
    (pss_cons (ps_dput (hu_of hr) (pv 4) pe_str (pe_tup (pa_cons (pe_op op_add (pv 1) pe_int) (pa_cons (pe_op op_sub (pv 2) pe_int) pa_nil))) rfl)
    (pss_cons (ps_for PassesOwn.never rfl (pi_enumT (by rfl) T.b_enumerate (pa_cons (pv 0) pa_nil)) (pg_tup rfl (pgs_cons (pg_name (i := 5) sc__is_code.nd rfl (Or.inl rfl)) (pgs_cons (pg_name (i := 6) sc__is_code.nd rfl (Or.inl rfl)) pgs_nil))) (pss_cons (ps_dput (hu_of hr) (pv 4) pe_str (pe_tup (pa_cons (pe_op op_add (pv 5) pe_int) (pa_cons (pe_callB call_len_seq (by rfl) T.b_len (by decide +kernel) (pa_cons (pv 0) pa_nil)) pa_nil))) rfl)
    (pss_one (ps_if (pt_not (pt_val (pe_callO G__is_instruction (hr.mono (by decide)) (pa_cons (pv 6) (pa_cons pe_bl (pa_cons (pv 4) (pa_cons (pv 3) pa_nil))))))) (pss_one (ps_ret pe_bl)) pss_nil))))
    (pss_one (ps_ret pe_bl))))))), ?_⟩
    refine q_when (b := !tupLen (fun n => decide ((1 : Int) ≤ (n : Int)) && decide ((n : Int) ≤ 8)) d) (et_not (et_tupLen rfl hd fun a xs ev h1 => by
      subst ev
      exact et_test (ev_chainLe ev_c (ev_lenT (ev_var rfl) (st_of h1)) ev_c))) (fun hb H1 x1 => ?_) (fun hb H1 x1 => ?_)
    · have z := not_true hb
      have e : okCode own nf fs d = false := by
        cases d with
        | tuple ds =>
          have z' : (decide ((1 : Int) ≤ (ds.length : Int)) && decide ((ds.length : Int) ≤ 8)) = false := z
          show (decide (1 ≤ ds.length) && decide (ds.length ≤ 8) && _) = false
          rw [show decide (1 ≤ ds.length) = decide ((1 : Int) ≤ (ds.length : Int)) by congr 1; exact propext ⟨fun h => by omega, fun h => by omega⟩, show decide (ds.length ≤ 8) = decide ((ds.length : Int) ≤ 8) by congr 1; exact propext ⟨fun h => by omega, fun h => by omega⟩, z', Bool.false_and]
        | _ => rfl
      rw [e] at q
      exact s_ret ev_c fun H2 x2 => q H2 (x1.trans x2)
    · have z := not_false hb
      cases hd with
      | @tup a xs ds h1 h2 =>
        have z' : (decide ((1 : Int) ≤ (ds.length : Int)) && decide ((ds.length : Int) ≤ 8)) = true := z
        rw [Bool.and_eq_true, decide_eq_true_eq, decide_eq_true_eq] at z'
        obtain ⟨za, zb⟩ := z'
        have hx := h2.len
        have eq : okCode own nf fs (.tuple ds) = (List.range ds.length).all fun i => okIns true (limsF fs.length ds.length own nf (i : Nat)) fs (ds.getD i .none) := by
          show (decide (1 ≤ ds.length) && decide (ds.length ≤ 8) && _) = _
          rw [decide_eq_true (by omega), decide_eq_true (by omega), Bool.true_and, Bool.true_and]
        -- limits = _shared_limits(fields)
        refine ⟨_, rfl, fa, fs, rfl, x1 _ _ hf, fun H2 p np x2 hl2 => ?_⟩
        have fp : H p = none := fresh_back x1 np
        have x12 := x1.trans x2
        -- limits['place'] = (0, len(thing))
        refine ⟨_, rfl, a, xs, rfl, .inr (st_of (x12 _ _ h1)), sz_of (by show 2 ≤ 100000; decide), fun t1 n1 => ⟨_, rfl, ?_⟩⟩
        have y1 := Evl.Ex.new n1 (o := .tup [V.int 0, .int (xs.length : Int)])
        obtain ⟨H3, put3, hl3, k3⟩ := (hl2.ex y1).put (k := "place") upd_same (l' := limsI fs.length ++ [(("place" : Str), ((0 : Int), (xs.length : Int)))]) (fun j x => look_snoc rfl j x) (by decide)
        refine ⟨p, H3, rfl, put3, ?_⟩
        have x3 : Ex H H3 := fun b o hb => k3 o b (ne_of_none hb fp) (y1 _ _ (x12 _ _ hb))
        -- limits['later function'] = (own + 1, functions - 1)
        refine ⟨_, rfl, own, 1, rfl, rfl, _, rfl, nf, 1, rfl, rfl, sz_of (by show 2 ≤ 100000; decide), fun t2 n2 => ⟨_, rfl, ?_⟩⟩
        have y2 := Evl.Ex.new n2 (o := .tup [V.int (own + 1), .int (nf - 1)])
        obtain ⟨H4, put4, hl4, k4⟩ := (hl3.ex y2).put (k := "later function") upd_same (l' := limsE fs.length ds.length own nf) (fun j x hj => by
          unfold limsE at hj
          rw [← hx] at hj
          exact look_snoc rfl j x hj) (by decide)
        refine ⟨p, H4, rfl, put4, ?_⟩
        have x4 : Ex H H4 := fun b o hb => k4 o b (ne_of_none hb fp) (y2 _ _ (x3 _ _ hb))
        -- for place, member in enumerate(thing)
        refine ⟨_, rfl, a, xs, rfl, st_of (x4 _ _ h1), ?_⟩
        refine for_it walk_enumT (fun i σ H' => ∃ y5 y6, σ = [some (.ref a), some (.int own), some (.int nf), some (.ref fa), some (.ref p), y5, y6] ∧ Ex H H' ∧ Lim H' p (limsE fs.length ds.length own nf) (5 + i) ∧ i ≤ ds.length ∧ ∀ j, j < i → okIns true (limsF fs.length ds.length own nf (j : Nat)) fs (ds.getD j .none) = true)
          ⟨none, none, rfl, x4, hl4, Nat.zero_le _, fun j hj => absurd hj (Nat.not_lt_zero _)⟩ (fun i σ H' _ ⟨_, _, _, z, _⟩ => st_of (z _ _ h1)) ?_ ?_
        · rintro i y σ H5 H5' hi ⟨y5, y6, rfl, x5, hl5, hil, done⟩ ⟨T', z1, z2, rfl, nT, rfl, f1, f2⟩
          obtain rfl : z1 = .int (i : Nat) := (Option.some.inj f1).symm
          refine ⟨T', _, rfl, .inl (.inl upd_same), rfl, _, _, rfl, _, _, rfl, rfl, ?_⟩
          have xT := Evl.Ex.new nT (o := .tup [V.int (i : Nat), z2])
          have hl6 := hl5.ex xT
          have x6 := x5.trans xT
          generalize upd H5 T' (.tup [V.int (i : Nat), z2]) = H6 at xT hl6 x6 ⊢
          obtain ⟨di, e1, dd⟩ := h2.at f2
          -- limits['later place'] = (place + 1, len(thing))
          refine ⟨_, rfl, i, 1, rfl, rfl, _, rfl, a, xs, rfl, .inr (st_of (x6 _ _ h1)), sz_of (by show 2 ≤ 100000; decide), fun t3 n3 => ⟨_, rfl, ?_⟩⟩
          have y3 := Evl.Ex.new n3 (o := .tup [V.int ((i : Nat) + 1), .int (xs.length : Int)])
          obtain ⟨H7, put7, hl7, k7⟩ := (hl6.ex y3).put (k := "later place") upd_same (l' := limsF fs.length ds.length own nf (i : Nat)) (fun j x hj => by
            unfold limsF at hj
            rw [← hx] at hj ⊢
            exact look_snoc rfl j x hj) (by omega)
          refine ⟨p, H7, rfl, put7, ?_⟩
          have x7 : Ex H H7 := fun b o hb => k7 o b (ne_of_none hb fp) (y3 _ _ (x6 _ _ hb))
          refine s_when (b := !okIns true (limsF fs.length ds.length own nf (i : Nat)) fs di) (et_not (et_B (sv_ret (z := .bl (okIns true (limsF fs.length ds.length own nf (i : Nat)) fs di)) (fun H8 e Q q => ⟨z2, di, true, p, fa, fs, _, _, rfl, (dd.ex x7).ex e, hl7.ex e, e _ _ (x7 _ _ hf), limOk_F, q⟩)
            (ea_cons (ev_var rfl) (ea_cons ev_c (ea_cons (ev_var rfl) (ea_cons (ev_var rfl) ea_nil))))))) (fun hb H8 x8 => ?_) (fun hb H8 x8 => ?_)
          · have w0 := not_true hb
            refine s_ret ev_c fun H9 x9 => ?_
            have e : okCode own nf fs (.tuple ds) = false := by
              rw [eq, Bool.eq_false_iff]
              intro al
              rw [List.all_eq_true] at al
              have al2 := al i (List.mem_range.mpr (by omega))
              rw [getD_at e1, w0] at al2
              cases al2
            rw [e] at q
            exact q H9 ((x7.trans x8).trans x9)
          · have w0 := not_false hb
            refine ⟨_, _, rfl, x7.trans x8, ?_, by omega, fun j hj => ?_⟩
            · obtain ⟨kvs, g1, g0, g2⟩ := hl7.ex x8
              refine ⟨kvs, g1, by omega, fun k lo hi hk => g2 k lo hi ?_⟩
              unfold limsF
              rw [List.lookup_append, hk]
              rfl
            · by_cases c : j < i
              · exact done j c
              · have ej : j = i := by omega
                subst ej
                rw [getD_at e1]
                exact w0
        · rintro σ H5 ⟨y5, y6, rfl, x5, _, _, done⟩
          show Q (V.bl true) H5
          have e : okCode own nf fs (.tuple ds) = true := by
            rw [eq, List.all_eq_true]
            intro j hj
            exact done j (by rw [hx]; exact List.mem_range.mp hj)
          rw [e] at q
          exact q H5 x5
      | _ => cases z
end
end FW
set_option Elab.async false
set_option linter.all false
set_option maxRecDepth 100000
set_option maxHeartbeats 4000000
namespace FW
open PySem PySem.Spec PyProof.Rows L2
open Evl (pss_cut tCut)
open Evl (Ex Ev EvT EvA EvL EvU RC RV fresh_back ev_var ev_c ea_nil ea_cons ev_cb ev_op ev_is ev_andV ev_orV ev_notV et_test et_B et_and et_or et_not et_is s_ret s_when q_when q_asg q_asgL q_asgU rv_I0 rv_eq rv_ne rv_ixT rv_ixL)
section
variable {P : Program} {w : World} {K : PySem.W.Frag} {mg : Str → Option Value} {base : Heap}
/-! #### units, functions -/
def spUnit : Sp := fun vs H Q _ => ∃ (v : V) (d : PyData) (n : Int), vs = [v, .int n] ∧ Da H v d ∧ Ret (.bl (okUnit n d)) H Q
theorem len3 {α : Type} {l : List α} (h : (l.length : Int) = 3) : ∃ a b c, l = [a, b, c] := by
  match l, h with
  | [a, b, c], _ => exact ⟨a, b, c, rfl⟩
  | [], h => exact absurd h (by simp)
  | [_], h => exact absurd h (by simp)
  | [_, _], h => exact absurd h (by simp)
  | _ :: _ :: _ :: _ :: r, h => exact absurd h (by simp only [List.length_cons]; omega)
theorem len2 {α : Type} {l : List α} (h : (l.length : Int) = 2) : ∃ a b, l = [a, b] := by
  match l, h with
  | [a, b], _ => exact ⟨a, b, rfl⟩
  | [], h => exact absurd h (by simp)
  | [_], h => exact absurd h (by simp)
  | _ :: _ :: _ :: r, h => exact absurd h (by simp only [List.length_cons]; omega)
theorem okUnit_no {n : Int} {d : PyData} (h : isTup d 3 = false) : okUnit n d = false := by
  unfold okUnit
  split
  · cases h
  · rfl
theorem da_non {H : Hp} {v : V} {d : PyData} (h : Da H v d) : decide (v = .non) = isNonD d := by
  cases h <;> first | rfl | exact decide_eq_false (fun z => by cases z)
theorem ok_is_unit (T : TProg K w.params mg) : Ok P w K mg base CX0 4 "_is_unit" ["thing", "number"] spUnit := by
  have G_is_tuple : Ok P w K mg base CX0 1 "is_tuple" ["thing", "size"] spTuple := ok_is_tuple T
  have G_is_within : Ok P w K mg base CX0 2 "is_within" ["thing", "low", "high"] spWithin := ok_is_within T
  have G_is_index : Ok P w K mg base CX0 3 "is_index" ["thing", "many"] spIndex := ok_is_index T
  refine T.d_is_unit.ok sc__is_unit bi__is_unit (fun vs H Q E h => ?_) (fun cdv A outer s H f vs Q E hr h => ?_)
  · obtain ⟨v, d, n, rfl, _⟩ := h
    rfl
  · obtain ⟨v, d, n, rfl, hd, q⟩ := h
    refine ⟨_, (pss_cons (ps_if (pt_not (pt_val (pe_callO G_is_tuple (hr.mono (by decide)) (pa_cons (pv 0) (pa_cons pe_int pa_nil))))) (pss_one (ps_ret pe_bl)) pss_nil)
    (pss_cons (ps_asg (pv 0) (pg_tup rfl (pgs_cons (pg_name (i := 2) sc__is_unit.nd rfl (Or.inl rfl)) (pgs_cons (pg_name (i := 3) sc__is_unit.nd rfl (Or.inl rfl)) (pgs_cons (pg_name (i := 4) sc__is_unit.nd rfl (Or.inl rfl)) pgs_nil)))))
    (pss_one (ps_ret (pe_and (pe_or (pe_cmpR op_isN (pv 2) pe_non (nomark _)) (pe_one (pe_callO G_is_index (hr.mono (by decide)) (pa_cons (pv 2) (pa_cons (pv 1) pa_nil))))) (pe_one (pe_callO G_is_within (hr.mono (by decide)) (pa_cons (pv 3) (pa_cons pe_int (pa_cons (pe_const T.c_MOST_FIELDS) pa_nil)))))))))), ?_⟩
    refine q_when (b := !isTup d 3) (et_not (et_B (sv_ret (fun H1 e Q q => ⟨v, d, 3, rfl, hd.ex e, q⟩) (ea_cons (ev_var rfl) (ea_cons ev_c ea_nil))))) (fun hb H1 x1 => ?_) (fun hb H1 x1 => ?_)
    · rw [okUnit_no (not_true hb)] at q
      exact s_ret ev_c fun H2 x2 => q H2 (x1.trans x2)
    · obtain ⟨ds, rfl, hl⟩ := isTup_tup (not_false hb)
      obtain ⟨p, fz, bd, rfl⟩ := len3 hl
      obtain ⟨a, xs, rfl, ha, hds⟩ := Da.tupl (hd.ex x1)
      cases hds with
      | @cons v1 r1 _ _ g1 hds =>
      cases hds with
      | @cons v2 r2 _ _ g2 hds =>
      cases hds with
      | @cons v3 r3 _ _ g3 hds =>
      cases hds
      refine ⟨_, rfl, a, _, rfl, st_of ha, rfl, _, _, rfl, _, _, rfl, _, _, rfl, rfl, ?_⟩
      refine s_ret (ev_is (ev_andV (a := isNonD p || isIn p 0 (n - 1)) (b := isIn fz 0 3)
        (ev_orV (a := isNonD p) (b := isIn p 0 (n - 1)) (ev_is (ev_op (ev_var rfl) ev_c rv_isN) (by rw [da_non g1])) fun _ =>
          sv_ret (fun H1 e Q q => ⟨v1, p, n, rfl, g1.ex e, q⟩) (ea_cons (ev_var rfl) (ea_cons (ev_var rfl) ea_nil)))
        fun _ => sv_ret (fun H1 e Q q => ⟨v2, fz, 0, 3, rfl, g2.ex e, q⟩) (ea_cons (ev_var rfl) (ea_cons ev_c (ea_cons ev_c ea_nil)))) rfl) fun H2 x2 => q H2 (x1.trans x2)
def spUnits : Sp := fun vs H Q _ => ∃ (v : V) (d : PyData), vs = [v] ∧ Da H v d ∧ Ret (.bl (okUnits d)) H Q
theorem ok_are_units (T : TProg K w.params mg) : Ok P w K mg base CX0 5 "_are_units" ["thing"] spUnits := by
  have G__is_unit : Ok P w K mg base CX0 4 "_is_unit" ["thing", "number"] spUnit := ok_is_unit T
  refine T.d_are_units.ok sc__are_units bi__are_units (fun vs H Q E h => ?_) (fun cdv A outer s H f vs Q E hr h => ?_)
  · obtain ⟨v, d, rfl, _⟩ := h
    rfl
  · obtain ⟨v, d, rfl, hd, q⟩ := h
    refine ⟨_, (pss_cons (ps_if (pt_not (PW.pt (pw_and (pt_val (pe_callB call_isi (by rfl) T.b_isinstance (by decide +kernel) (pa_cons (pv 0) (pa_cons (pe_bltn (by rfl) T.b_tuple (by decide +kernel) (v := .ty "tuple") rfl) pa_nil)))) (pw_and1 (pt_chain op_le op_le pe_int (pe_callB call_len_seq (by rfl) T.b_len (by decide +kernel) (pa_cons (pv 0) pa_nil)) (pe_const T.c_MOST_UNITS)))))) (pss_one (ps_ret pe_bl)) pss_nil)
    (pss_one (ps_ret (pe_callB (cr_all rfl) (by rfl) T.b_all (by decide +kernel) (pa_cons (pe_lc (own := [("number", 1), ("member", 2)]) (g := gTup K 2 (gCons (gName 1) (gCons (gName 2) gNil))) rfl sc__are_units.nd (pi_enumT (by rfl) T.b_enumerate (pa_cons (pv 0) pa_nil)) (blkOk_by (N := N__are_units) (sc := defScope s__are_units) (by decide +kernel)) (fun _ _ _ _ _ => by exact (pg_tup rfl (pgs_cons (pg_name (i := 1) sc__are_units.nd rfl (Or.inl rfl)) (pgs_cons (pg_name (i := 2) sc__are_units.nd rfl (Or.inl rfl)) pgs_nil)))) (fun _ _ _ _ _ => pts_nil) (fun _ _ _ _ _ => (pe_callO G__is_unit (hr.mono (by decide)) (pa_cons (pv 2) (pa_cons (pv 1) pa_nil))))) pa_nil))))), ?_⟩
    refine q_when (b := !tupLen (fun n => decide ((1 : Int) ≤ (n : Int)) && decide ((n : Int) ≤ 6)) d) (et_not (et_tupLen rfl hd fun a xs ev h1 => by
      subst ev
      exact et_test (ev_chainLe ev_c (ev_lenT (ev_var rfl) (st_of h1)) ev_c))) (fun hb H1 x1 => ?_) (fun hb H1 x1 => ?_)
    · have z := not_true hb
      have e : okUnits d = false := by
        cases d with
        | tuple ds =>
          have z' : (decide ((1 : Int) ≤ (ds.length : Int)) && decide ((ds.length : Int) ≤ 6)) = false := z
          show (decide (1 ≤ ds.length) && decide (ds.length ≤ 6) && _) = false
          rw [show decide (1 ≤ ds.length) = decide ((1 : Int) ≤ (ds.length : Int)) by congr 1; exact propext ⟨fun h => by omega, fun h => by omega⟩, show decide (ds.length ≤ 6) = decide ((ds.length : Int) ≤ 6) by congr 1; exact propext ⟨fun h => by omega, fun h => by omega⟩, z', Bool.false_and]
        | _ => rfl
      rw [e] at q
      exact s_ret ev_c fun H2 x2 => q H2 (x1.trans x2)
    · have z := not_false hb
      cases hd with
      | @tup a xs ds h1 h2 =>
        have z' : (decide ((1 : Int) ≤ (ds.length : Int)) && decide ((ds.length : Int) ≤ 6)) = true := z
        rw [Bool.and_eq_true, decide_eq_true_eq, decide_eq_true_eq] at z'
        obtain ⟨za, zb⟩ := z'
        have hx := h2.len
        have el := el_lcE (K := K) (xs := xs) (te := tCall spUnit [] E0 (tCons (tVar 2) (tCons (tVar 1) tNil))) (σ := [some (.ref a), none, none]) (H := H1) (ta := tCons (tVar 0) tNil) (i := 1) (j := 2) (vs := [1, 2])
          (fun i => .bl (okUnit (i : Nat) (ds.getD i .none))) (ea_cons (ev_var rfl) ea_nil) (st_of (x1 _ _ h1)) (by rw [hx]; omega) (fun _ _ => rfl) (fun k x H3 x3 hk => by
            obtain ⟨dk, e1, dd⟩ := h2.at hk
            rw [getD_at e1]
            exact sv_ret (fun H4 e Q q => ⟨x, dk, (k : Nat), rfl, ((dd.ex x1).ex x3).ex e, q⟩) (ea_cons (ev_var rfl) (ea_cons (ev_var rfl) ea_nil)))
        rw [bl_map] at el
        refine s_ret (ev_is (ev_allN (elw_new el)) ?_) fun H3 x3 => q H3 (x1.trans x3)
        rw [all_map, hx]
        show V.bl _ = V.bl (decide (1 ≤ ds.length) && decide (ds.length ≤ 6) && _)
        rw [decide_eq_true (by omega), decide_eq_true (by omega), Bool.true_and, Bool.true_and]
      | _ => cases z
def spFuns : Sp := fun vs H Q _ => ∃ (v : V) (d : PyData) (n : Int), vs = [v, .int n] ∧ Da H v d ∧ Ret (.bl (okFuns n d)) H Q
theorem okFun_is {n : Int} {d : PyData} (h : isTup d 2 = false) : okFun n d = false := by
  unfold okFun
  split
  · cases h
  · rfl
theorem ok_are_functions (T : TProg K w.params mg) : Ok P w K mg base CX0 4 "_are_functions" ["thing", "units"] spFuns := by
  have G_is_tuple : Ok P w K mg base CX0 1 "is_tuple" ["thing", "size"] spTuple := ok_is_tuple T
  have G_is_index : Ok P w K mg base CX0 3 "is_index" ["thing", "many"] spIndex := ok_is_index T
  refine T.d_are_functions.ok sc__are_functions bi__are_functions (fun vs H Q E h => ?_) (fun cdv A outer s H f vs Q E hr h => ?_)
  · obtain ⟨v, d, n, rfl, _⟩ := h
    rfl
  · obtain ⟨v, d, n, rfl, hd, q⟩ := h
    refine ⟨_, (pss_cons (ps_if (pt_not (PW.pt (pw_and (pt_val (pe_callB call_isi (by rfl) T.b_isinstance (by decide +kernel) (pa_cons (pv 0) (pa_cons (pe_bltn (by rfl) T.b_tuple (by decide +kernel) (v := .ty "tuple") rfl) pa_nil)))) (pw_and1 (pt_chain op_le op_le pe_int (pe_callB call_len_seq (by rfl) T.b_len (by decide +kernel) (pa_cons (pv 0) pa_nil)) (pe_const T.c_MOST_FUNCTIONS)))))) (pss_one (ps_ret pe_bl)) pss_nil)
    (pss_one (ps_ret (pe_callB (cr_all rfl) (by rfl) T.b_all (by decide +kernel) (pa_cons (pe_lc (own := [("member", 2)]) rfl sc__are_functions.nd (pi_tup (pv 0)) (blkOk_by (N := N__are_functions) (sc := defScope s__are_functions) (by decide +kernel)) (fun _ _ _ _ _ => (pg_name (i := 2) sc__are_functions.nd rfl (Or.inl rfl))) (fun _ _ _ _ _ => pts_nil) (fun _ _ _ _ _ => (pe_and (pe_callO G_is_tuple (hr.mono (by decide)) (pa_cons (pv 2) (pa_cons pe_int pa_nil))) (pe_one (pe_callO G_is_index (hr.mono (by decide)) (pa_cons (pe_ix (ix_tupK (K := K) rfl) (pv 2) pe_int (fun _ _ => rfl)) (pa_cons (pv 1) pa_nil))))))) pa_nil))))), ?_⟩
    refine q_when (b := !tupLen (fun n => decide ((1 : Int) ≤ (n : Int)) && decide ((n : Int) ≤ 4)) d) (et_not (et_tupLen rfl hd fun a xs ev h1 => by
      subst ev
      exact et_test (ev_chainLe ev_c (ev_lenT (ev_var rfl) (st_of h1)) ev_c))) (fun hb H1 x1 => ?_) (fun hb H1 x1 => ?_)
    · have z := not_true hb
      have e : okFuns n d = false := by
        cases d with
        | tuple ds =>
          have z' : (decide ((1 : Int) ≤ (ds.length : Int)) && decide ((ds.length : Int) ≤ 4)) = false := z
          show (decide (1 ≤ ds.length) && decide (ds.length ≤ 4) && _) = false
          rw [show decide (1 ≤ ds.length) = decide ((1 : Int) ≤ (ds.length : Int)) by congr 1; exact propext ⟨fun h => by omega, fun h => by omega⟩, show decide (ds.length ≤ 4) = decide ((ds.length : Int) ≤ 4) by congr 1; exact propext ⟨fun h => by omega, fun h => by omega⟩, z', Bool.false_and]
        | _ => rfl
      rw [e] at q
      exact s_ret ev_c fun H2 x2 => q H2 (x1.trans x2)
    · have z := not_false hb
      cases hd with
      | @tup a xs ds h1 h2 =>
        have z' : (decide ((1 : Int) ≤ (ds.length : Int)) && decide ((ds.length : Int) ≤ 4)) = true := z
        rw [Bool.and_eq_true, decide_eq_true_eq, decide_eq_true_eq] at z'
        obtain ⟨za, zb⟩ := z'
        have hx := h2.len
        have el := el_lcT (K := K) (xs := xs) (te := tAndV (tCall spTuple [] E0 (tCons (tVar 2) (tCons (tC (.int 2)) tNil))) (tCall spIndex [] E0 (tCons (tOp (rIxT K) (tVar 2) (tC (.int 0))) (tCons (tVar 1) tNil)))) (σ := [some (.ref a), some (.int n), none]) (H := H1) (tx := tVar 0) (j := 2) (vs := [2])
          (fun i => .bl (okFun n (ds.getD i .none))) (ev_var rfl) (st_of (x1 _ _ h1)) (by rw [hx]; omega) (fun _ => rfl) (fun k x H3 x3 hk => by
            obtain ⟨dk, e1, dd⟩ := h2.at hk
            rw [getD_at e1]
            have dd3 := (dd.ex x1).ex x3
            refine ev_is (ev_andV (a := isTup dk 2) (b := okFun n dk) (sv_ret (fun H4 e Q q => ⟨x, dk, 2, rfl, dd3.ex e, q⟩) (ea_cons (ev_var rfl) (ea_cons ev_c ea_nil))) fun hb => ?_) ?_
            · obtain ⟨es, rfl, hl⟩ := isTup_tup hb
              obtain ⟨uz, bz, rfl⟩ := len2 hl
              obtain ⟨a', xs', rfl, ha', hds'⟩ := Da.tupl dd3
              cases hds' with
              | @cons v1 r1 _ _ g1 hds' =>
              exact sv_ret (z := .bl (okFun n (.tuple [uz, bz]))) (fun H4 e Q q => ⟨v1, uz, n, rfl, g1.ex e, q⟩) (ea_cons (ev_op (ev_var rfl) ev_c (rv_ixT (st_of ha') (atI_nat (j := 0) rfl))) (ea_cons (ev_var rfl) ea_nil))
            · cases c : isTup dk 2 with
              | true => rw [Bool.true_and]
              | false => rw [okFun_is c]; rfl)
        rw [bl_map] at el
        refine s_ret (ev_is (ev_allN (elw_new el)) ?_) fun H3 x3 => q H3 (x1.trans x3)
        rw [all_map, hx, all_at]
        show V.bl _ = V.bl (decide (1 ≤ ds.length) && decide (ds.length ≤ 4) && _)
        rw [decide_eq_true (by omega), decide_eq_true (by omega), Bool.true_and, Bool.true_and]
      | _ => cases z
/-! #### a program -/
def okFunsOf (du df : PyData) : Bool := match du with
  | .tuple us => okFuns (us.length : Nat) df
  | _ => false
def spProg : Sp := fun vs H Q _ => ∃ (v : V) (d : PyData), vs = [v] ∧ Da H v d ∧ Ret (.bl (okProg d)) H Q
theorem okProg_tup {d : PyData} (h : okProg d = true) : ∃ us fns, d = .tuple [.tuple us, .tuple fns] := by
  unfold okProg at h
  split at h
  · exact ⟨_, _, rfl⟩
  · cases h
theorem okUnits_tup {d : PyData} (h : okUnits d = true) : ∃ us, d = .tuple us ∧ us.length ≤ 6 ∧ 1 ≤ us.length ∧ ∀ i (u : PyData), us[i]? = some u → okUnit (i : Nat) u = true := by
  cases d with
  | tuple us =>
    have z : (decide (1 ≤ us.length) && decide (us.length ≤ 6) && (List.range us.length).all fun i => okUnit (i : Nat) (us.getD i .none)) = true := h
    rw [Bool.and_eq_true, Bool.and_eq_true, decide_eq_true_eq, decide_eq_true_eq, List.all_eq_true] at z
    refine ⟨us, rfl, z.1.2, z.1.1, fun i u hu => ?_⟩
    have := z.2 i (List.mem_range.mpr (List.getElem?_eq_some_iff.mp hu).1)
    rw [getD_at hu] at this
    exact this
  | _ => cases h
theorem okFuns_tup {n : Int} {d : PyData} (h : okFuns n d = true) : ∃ fns, d = .tuple fns ∧ fns.length ≤ 4 ∧ 1 ≤ fns.length ∧ ∀ f ∈ fns, okFun n f = true := by
  cases d with
  | tuple fns =>
    have z : (decide (1 ≤ fns.length) && decide (fns.length ≤ 4) && fns.all (okFun n)) = true := h
    rw [Bool.and_eq_true, Bool.and_eq_true, decide_eq_true_eq, decide_eq_true_eq, List.all_eq_true] at z
    exact ⟨fns, rfl, z.1.2, z.1.1, z.2⟩
  | _ => cases h
theorem okUnit_tup {n : Int} {d : PyData} (h : okUnit n d = true) : ∃ p fz b, d = .tuple [p, .int fz, b] ∧ 0 ≤ fz ∧ fz ≤ 3 ∧ (p = .none ∨ ∃ k, p = .int k ∧ 0 ≤ k ∧ k ≤ n - 1) := by
  unfold okUnit at h
  split at h
  · rename_i p f b
    rw [Bool.and_eq_true] at h
    obtain ⟨fz, rfl, f0, f1⟩ := isIn_int h.2
    refine ⟨p, fz, b, rfl, f0, f1, ?_⟩
    have h1 := h.1
    rw [Bool.or_eq_true] at h1
    rcases h1 with h1 | h1
    · cases p with
      | none => exact .inl rfl
      | _ => cases h1
    · obtain ⟨k, rfl, k0, k1⟩ := isIn_int h1
      exact .inr ⟨k, rfl, k0, k1⟩
  · cases h
theorem okFun_tup {n : Int} {d : PyData} (h : okFun n d = true) : ∃ u b, d = .tuple [.int u, b] ∧ 0 ≤ u ∧ u ≤ n - 1 := by
  unfold okFun at h
  split at h
  · obtain ⟨k, rfl, k0, k1⟩ := isIn_int h
    exact ⟨k, _, rfl, k0, k1⟩
  · cases h
theorem ok_is_program (T : TProg K w.params mg) : Ok P w K mg base CX0 6 "is_program" ["thing"] spProg := by
  have G_is_tuple : Ok P w K mg base CX0 1 "is_tuple" ["thing", "size"] spTuple := ok_is_tuple T
  have G__are_units : Ok P w K mg base CX0 5 "_are_units" ["thing"] spUnits := ok_are_units T
  have G__are_functions : Ok P w K mg base CX0 4 "_are_functions" ["thing", "units"] spFuns := ok_are_functions T
  have G__is_initializer : Ok P w K mg base CX0 4 "_is_initializer" ["thing", "fields"] spInit := ok_is_initializer T
  have G__is_code : Ok P w K mg base CX0 4 "_is_code" ["thing", "own", "functions", "fields"] spCode := ok_is_code T
  refine T.d_is_program.ok sc_is_program bi_is_program (fun vs H Q E h => ?_) (fun cdv A outer s H f vs Q E hr h => ?_)
  · obtain ⟨v, d, rfl, _⟩ := h
    rfl
  · obtain ⟨v, d, rfl, hd, q⟩ := h
    refine ⟨_, (pss_cons (ps_if (pt_not (pt_val (pe_callO G_is_tuple (hr.mono (by decide)) (pa_cons (pv 0) (pa_cons pe_int pa_nil))))) (pss_one (ps_ret pe_bl)) pss_nil)
    (pss_cons (ps_asg (pv 0) (pg_tup rfl (pgs_cons (pg_name (i := 1) sc_is_program.nd rfl (Or.inl rfl)) (pgs_cons (pg_name (i := 2) sc_is_program.nd rfl (Or.inr rfl)) pgs_nil))))
    (pss_cons (ps_if (pt_not (PW.pt (pw_and (pt_val (pe_callO G__are_units (hr.mono (by decide)) (pa_cons (pv 1) pa_nil))) (pw_and1 (pt_val (pe_callO G__are_functions (hr.mono (by decide)) (pa_cons (pv 2) (pa_cons (pe_callB call_len_seq (by rfl) T.b_len (by decide +kernel) (pa_cons (pv 1) pa_nil)) pa_nil)))))))) (pss_one (ps_ret pe_bl)) pss_nil)
    (pss_cons (ps_set (i := 3) sc_is_program.nd rfl (Or.inr rfl) (pe_lc (own := [("unit", 4)]) rfl sc_is_program.nd (pi_tup (pv 1)) (blkOk_by (N := N_is_program) (sc := defScope s_is_program) (by decide +kernel)) (fun _ _ _ _ _ => (pg_name (i := 4) sc_is_program.nd rfl (Or.inl rfl))) (fun _ _ _ _ _ => pts_nil) (fun _ _ _ _ _ => (pe_ix (ix_tupK (K := K) rfl) (pv 4) pe_int (fun _ _ => rfl)))))
    (pss_cons (ps_setLc (i := 5) (own := [("unit", 4)]) (g := gName 4) rfl sc_is_program.nd rfl rfl (sw_true rfl rfl rfl (by decide +kernel)) (pi_tup (pv 1)) (blkOk_by (N := N_is_program) (sc := defScope s_is_program) (by decide +kernel)) (fun _ _ _ _ _ => (pg_name (i := 4) sc_is_program.nd rfl (Or.inl rfl))) (fun _ _ _ _ _ => pts_nil) (fun _ _ _ _ _ => (pe_callO G__is_initializer (hr.mono (by decide)) (pa_cons (pe_ix (ix_tupK (K := K) rfl) (pv 4) pe_int (fun _ _ => rfl)) (pa_cons (pv 3) pa_nil)))))
    (pss_cons (ps_setLc (i := 6) (own := [("own", 7), ("function", 8)]) (g := gTup K 2 (gCons (gName 7) (gCons (gName 8) gNil))) rfl sc_is_program.nd rfl rfl (sw_true rfl rfl rfl (by decide +kernel)) (pi_enumT (by rfl) T.b_enumerate (pa_cons (pv 2) pa_nil)) (blkOk_by (N := N_is_program) (sc := defScope s_is_program) (by decide +kernel)) (fun _ _ _ _ _ => by exact (pg_tup rfl (pgs_cons (pg_name (i := 7) sc_is_program.nd rfl (Or.inl rfl)) (pgs_cons (pg_name (i := 8) sc_is_program.nd rfl (Or.inl rfl)) pgs_nil)))) (fun _ _ _ _ _ => pts_nil) (fun _ _ _ _ _ => (pe_callO G__is_code (hr.mono (by decide)) (pa_cons (pe_ix (ix_tupK (K := K) rfl) (pv 8) pe_int (fun _ _ => rfl)) (pa_cons (pv 7) (pa_cons (pe_callB (call_lenK (K := K) rfl) (by rfl) T.b_len (by decide +kernel) (pa_cons (pv 2) pa_nil)) (pa_cons (pv 3) pa_nil)))))))
    (pss_one (ps_ret (pe_and (pe_callB (cr_all rfl) (by rfl) T.b_all (by decide +kernel) (pa_cons (pv 5) pa_nil)) (pe_one (pe_callB (cr_all rfl) (by rfl) T.b_all (by decide +kernel) (pa_cons (pv 6) pa_nil)))))))))))), ?_⟩
    refine q_when (b := !isTup d 2) (et_not (et_B (sv_ret (fun H1 e Q q => ⟨v, d, 2, rfl, hd.ex e, q⟩) (ea_cons (ev_var rfl) (ea_cons ev_c ea_nil))))) (fun hb H1 x1 => ?_) (fun hb H1 x1 => ?_)
    · have e : okProg d = false := by
        rw [Bool.eq_false_iff]
        intro z
        obtain ⟨us, fns, rfl⟩ := okProg_tup z
        cases not_true hb
      rw [e] at q
      exact s_ret ev_c fun H2 x2 => q H2 (x1.trans x2)
    · obtain ⟨ds, rfl, hl⟩ := isTup_tup (not_false hb)
      obtain ⟨du, df, rfl⟩ := len2 hl
      obtain ⟨a, xs, rfl, ha, hds⟩ := Da.tupl (hd.ex x1)
      cases hds with
      | @cons vu r1 _ _ gu hds =>
      cases hds with
      | @cons vf r2 _ _ gf hds =>
      cases hds
      -- units, functions = thing
      refine ⟨_, rfl, a, _, rfl, st_of ha, rfl, _, _, rfl, _, _, rfl, rfl, ?_⟩
      -- the units, the functions
      refine q_when (b := !(okUnits du && okFunsOf du df)) (et_not (et_and (et_B (sv_ret (fun H1 e Q q => ⟨vu, du, rfl, gu.ex e, q⟩) (ea_cons (ev_var rfl) ea_nil))) fun hu => ?_)) (fun hb2 H2 x2 => ?_) (fun hb2 H2 x2 => ?_)
      · obtain ⟨us, rfl, _, _, _⟩ := okUnits_tup hu
        obtain ⟨au, xu, rfl, hau, hus⟩ := Da.tupl gu
        exact et_B (sv_ret (z := .bl (okFuns (us.length : Nat) df)) (fun H1 e Q q => ⟨vf, df, (us.length : Nat), by rw [hus.len], gf.ex e, q⟩) (ea_cons (ev_var rfl) (ea_cons (ev_lenT (ev_var rfl) (st_of hau)) ea_nil)))
      · have e : okProg (.tuple [du, df]) = false := by
          rw [Bool.eq_false_iff]
          intro z
          obtain ⟨us, fns, e⟩ := okProg_tup z
          cases e
          unfold okProg at z
          rw [Bool.and_eq_true, Bool.and_eq_true] at z
          have z2 : (okUnits (.tuple us) && okFuns (us.length : Nat) (.tuple fns)) = false := not_true hb2
          rw [z.1.1] at z2
          cases z2
        rw [e] at q
        exact s_ret ev_c fun H3 x3 => q H3 ((x1.trans x2).trans x3)
      · have hb3 := not_false hb2
        rw [Bool.and_eq_true] at hb3
        obtain ⟨us, rfl, us6, us1, hunit⟩ := okUnits_tup hb3.1
        obtain ⟨fns, rfl, f4, f1, hfun⟩ := okFuns_tup hb3.2
        obtain ⟨au, xu, rfl, hau, hus⟩ := Da.tupl (gu.ex x2)
        obtain ⟨af, xf, rfl, haf, hfs⟩ := Da.tupl (gf.ex x2)
        have hxu := hus.len
        have hxf := hfs.len
        -- fields = [unit[1] for unit in units]
        have el := el_lcT (K := K) (xs := xu) (te := tOp (rIxT K) (tVar 4) (tC (.int 1))) (σ := [some (.ref a), some (.ref au), some (.ref af), none, none, none, none, none, none]) (H := H2) (tx := tVar 1) (j := 4) (vs := [4])
          (fun i => .int (fieldsD (us.getD i .none))) (ev_var rfl) (st_of hau) (by rw [hxu]; omega) (fun _ => rfl) (fun k x H3 x3 hk => by
            obtain ⟨dk, e1, dd⟩ := hus.at hk
            obtain ⟨p, fz, b, rfl, _, _, _⟩ := okUnit_tup (hunit k dk e1)
            rw [getD_at e1]
            obtain ⟨a', xs', rfl, ha', hds'⟩ := Da.tupl (dd.ex x3)
            cases hds' with
            | @cons v1 r1 _ _ g1 hds' =>
            cases hds' with
            | @cons v2 r2 _ _ g2 hds' =>
            cases g2
            exact ev_op (ev_var rfl) ev_c (rv_ixT (st_of ha') (atI_nat (j := 1) rfl)))
        have ef : (List.range xu.length).map (fun i => V.int (fieldsD (us.getD i .none))) = (us.map fieldsD).map V.int := by
          rw [hxu, List.map_map]
          refine List.ext_getElem (by simp) fun i h1 h2 => ?_
          simp only [List.length_map, List.length_range] at h1
          rw [List.getElem_map, List.getElem_map, List.getElem_range, getD_at (List.getElem?_eq_getElem h1)]
          rfl
        rw [ef] at el
        refine q_asgL el fun fa H3 n3 x3 h3 => ?_
        generalize hfz : us.map fieldsD = fs at *
        -- initializers
        have el2 := el_lcT (K := K) (xs := xu) (te := tCall spInit [] E0 (tCons (tOp (rIxT K) (tVar 4) (tC (.int 2))) (tCons (tVar 3) tNil))) (σ := [some (.ref a), some (.ref au), some (.ref af), some (.ref fa), none, none, none, none, none]) (H := H3) (tx := tVar 1) (j := 4) (vs := [4])
          (fun i => .bl (okInit fs (bodyD (us.getD i .none)))) (ev_var rfl) (st_of (x3 _ _ hau)) (by rw [hxu]; omega) (fun _ => rfl) (fun k x H4 x4 hk => by
            obtain ⟨dk, e1, dd⟩ := hus.at hk
            obtain ⟨p, fz, b, rfl, _, _, _⟩ := okUnit_tup (hunit k dk e1)
            rw [getD_at e1]
            obtain ⟨a', xs', rfl, ha', hds'⟩ := Da.tupl ((dd.ex x3).ex x4)
            cases hds' with
            | @cons v1 r1 _ _ g1 hds' =>
            cases hds' with
            | @cons v2 r2 _ _ g2 hds' =>
            cases hds' with
            | @cons v3 r3 _ _ g3 hds' =>
            exact sv_ret (fun H5 e Q q => ⟨v3, b, fa, fs, rfl, g3.ex e, e _ _ (x4 _ _ h3), q⟩) (ea_cons (ev_op (ev_var rfl) ev_c (rv_ixT (st_of ha') (atI_nat (j := 2) rfl))) (ea_cons (ev_var rfl) ea_nil)))
        refine q_asgL el2 fun ia H4 n4 x4 h4 => ?_
        -- codes
        have el3 := el_lcE (K := K) (xs := xf) (te := tCall spCode [] E0 (tCons (tOp (rIxT K) (tVar 8) (tC (.int 1))) (tCons (tVar 7) (tCons (tCB (fun xs H Q => ∃ p ys, xs = [.ref p] ∧ (SqL K H p ys ∨ SqT K H p ys) ∧ Q (.int ys.length) H) (tCons (tVar 2) tNil)) (tCons (tVar 3) tNil))))) (σ := [some (.ref a), some (.ref au), some (.ref af), some (.ref fa), none, some (.ref ia), none, none, none]) (H := H4) (ta := tCons (tVar 2) tNil) (i := 7) (j := 8) (vs := [7, 8])
          (fun i => .bl (okCode (i : Nat) (fns.length : Nat) fs (bodyD (fns.getD i .none)))) (ea_cons (ev_var rfl) ea_nil) (st_of (x4 _ _ (x3 _ _ haf))) (by rw [hxf]; omega) (fun _ _ => rfl) (fun k x H5 x5 hk => by
            obtain ⟨dk, e1, dd⟩ := hfs.at hk
            obtain ⟨u, b, rfl, _, _⟩ := okFun_tup (hfun dk (List.mem_of_getElem? e1))
            rw [getD_at e1]
            have x45 := (x3.trans x4).trans x5
            obtain ⟨a', xs', rfl, ha', hds'⟩ := Da.tupl (dd.ex x45)
            cases hds' with
            | @cons v1 r1 _ _ g1 hds' =>
            cases hds' with
            | @cons v2 r2 _ _ g2 hds' =>
            exact sv_ret (fun H6 e Q q => ⟨v2, b, (k : Nat), (fns.length : Nat), fa, fs, by rw [hxf], g2.ex e, e _ _ (x5 _ _ (x4 _ _ h3)), q⟩)
              (ea_cons (ev_op (ev_var rfl) ev_c (rv_ixT (st_of ha') (atI_nat (j := 1) rfl))) (ea_cons (ev_var rfl) (ea_cons (ev_lenT (ev_var rfl) (st_of (x45 _ _ haf))) (ea_cons (ev_var rfl) ea_nil)))))
        refine q_asgL el3 fun ca H5 n5 x5 h5 => ?_
        rw [bl_map] at h4 h5
        refine s_ret (ev_is (ev_andV (ev_allN (elw_var rfl (x5 _ _ h4))) fun _ => ev_allN (elw_var rfl h5)) ?_) fun H6 x6 => q H6 (((((x1.trans x2).trans x3).trans x4).trans x5).trans x6)
        rw [all_map, all_map, hxu, hxf, all_at (g := fun u => okInit fs (bodyD u))]
        have e : okProg (.tuple [.tuple us, .tuple fns]) = (okUnits (.tuple us) && okFuns (us.length : Nat) (.tuple fns) && us.all (fun u => okInit (us.map fieldsD) (bodyD u)) &&
            (List.range fns.length).all fun i => okCode (i : Nat) (fns.length : Nat) (us.map fieldsD) (bodyD (fns.getD i .none))) := rfl
        rw [e, hb3.1, hfz, show okFuns (us.length : Nat) (.tuple fns) = true from hb3.2, Bool.true_and, Bool.true_and]
end
end FW
set_option Elab.async false
set_option linter.all false
set_option maxRecDepth 100000
set_option maxHeartbeats 4000000
namespace FW
open PySem PySem.Spec PyProof.Rows L2
/-! ### a written dict of words and tuples of words -/
def TupAt (K : PySem.W.Frag) (a : Addr) (ks : List Str) : Prop := ∃ (od : Option Addr) (vs : Array Value) (n : Nat) (sl : Array (Option Value)), K.lookup a = some ⟨.type "tuple", od, .seq vs n, sl⟩ ∧ od = none ∧ vs.size ≤ sizeLine ∧ Vals (ks.map V.str) vs.toList
def EntAt (K : PySem.W.Frag) (e : DictEntry) (f : Str × List Str) : Prop := ∃ t a, e.key = .str f.1 t ∧ e.val = .ref a ∧ TupAt K a f.2
def KFAt (K : PySem.W.Frag) (P : Params) (x : Str) (fm : List (Str × List Str)) : Prop := ∃ (p : Addr) (es : Array DictEntry) (n : Nat), PySem.W.nsIn K mainGlobals x = some (some (.ref p)) ∧ K.lookup p = some ⟨.type "dict", none, .dict es n, #[]⟩ ∧ PySem.W.KeysLit P es.toList ∧ (p == sysModules) = false ∧ Paired (EntAt K) es.toList fm
theorem TupAt.mk {K : PySem.W.Frag} {a : Addr} {ks : List Str} {od : Option Addr} {vs : Array Value} {n : Nat} {sl : Array (Option Value)} (l : K.lookup a = some ⟨.type "tuple", od, .seq vs n, sl⟩) (d : od = none) (s : vs.size ≤ sizeLine) (v : Vals (ks.map V.str) vs.toList) : TupAt K a ks :=
  ⟨od, vs, n, sl, l, d, s, v⟩
theorem EntAt.mk {K : PySem.W.Frag} {e : DictEntry} {f : Str × List Str} {t : Tok} {a : Addr} (k : e.key = .str f.1 t) (v : e.val = .ref a) (h : TupAt K a f.2) : EntAt K e f := ⟨t, a, k, v, h⟩
theorem KFAt.mk {K : PySem.W.Frag} {P : Params} {x : Str} {fm : List (Str × List Str)} {p : Addr} {es : Array DictEntry} {n : Nat} (a : PySem.W.nsIn K mainGlobals x = some (some (.ref p))) (l : K.lookup p = some ⟨.type "dict", none, .dict es n, #[]⟩) (k : PySem.W.KeysLit P es.toList)
    (s : (p == sysModules) = false) (e : Paired (EntAt K) es.toList fm) : KFAt K P x fm := ⟨p, es, n, a, l, k, s, e⟩
theorem pairs_of {K : PySem.W.Frag} {es : List DictEntry} {fm : List (Str × List Str)} (h : Paired (EntAt K) es fm) : ∃ kvs : List (Str × V), Paired (fun (e : DictEntry) (kv : Str × V) => (∃ t, e.key = .str kv.1 t) ∧ RelV kv.2 e.val) es kvs ∧
    Paired (fun (kv : Str × V) (e : Str × List Str) => kv.1 = e.1 ∧ ∃ a, kv.2 = .ref a ∧ ∀ H, SqT K H a (e.2.map V.str)) kvs fm := by
  induction h with
  | nil => exact ⟨[], .nil, .nil⟩
  | @cons e f es fm h _ ih =>
    obtain ⟨kvs, h1, h2⟩ := ih
    obtain ⟨t, a, hk, hv, od, vs, n, sl, l, d, s, v⟩ := h
    subst d
    exact ⟨(f.1, .ref a) :: kvs, .cons ⟨⟨t, hk⟩, hv⟩ h1, .cons ⟨rfl, a, rfl, fun H => .inr ⟨_, vs, n, l, rfl, rfl, s, v⟩⟩ h2⟩
theorem KFAt.kf {K : PySem.W.Frag} {P : Params} {mg : Str → Option Value} {h : Heap} {x : Str} {fm : List (Str × List Str)} (D : KFAt K P x fm) (X : K.In h) (G : h.Ns mainGlobals mg) : KForms K P mg x fm := by
  obtain ⟨p, es, n, a, l, k, s, e⟩ := D
  obtain ⟨kvs, h1, h2⟩ := pairs_of e
  exact ⟨p, kvs, PySem.W.mg_of X G a, ⟨es, n, l, k, s, h1⟩, h2⟩
end FW
set_option Elab.async false
set_option linter.all false
set_option maxRecDepth 100000
set_option maxHeartbeats 4000000
namespace FW
open PySem PySem.Spec PyProof.Rows L2
open Evl (pss_cut tCut)
open Evl (Ex Ev EvT EvA EvL EvU RC RV fresh_back ev_var ev_c ea_nil ea_cons ev_cb ev_op ev_is ev_andV ev_orV ev_notV et_test et_B et_and et_or et_not et_is s_ret s_when q_when q_asg q_asgL q_asgU rv_I0 rv_eq rv_ne rv_ixT rv_ixL RetL RetV)
structure TReach (K : PySem.W.Frag) (P : Params) (mg : Str → Option Value) : Prop extends TProg K P mg where
  b_range : mg "range" = none
  b_any : mg "any" = none
  b_sorted : mg "sorted" = none
  d_need_program : Df K mg "need_program" s_need_program
  d_need_unit : Df K mg "need_unit" s_need_unit
  d_accessed_unit : Df K mg "accessed_unit" s_accessed_unit
  d_acc : Df K mg "_accessed_in_waking" s__accessed_in_waking
  d_befores : Df K mg "_befores" s__befores
  d_inloop : Df K mg "_is_in_loop" s__is_in_loop
  d_reach : Df K mg "reach" s_reach
  d_chain : Df K mg "chain" s_chain
  d_loops : Df K mg "loops" s_loops
/-! #### the accesses of a waking, over data -/
inductive InsV (n : Nat) : PyData → Prop where
  | other {w : Str} (a b : Int) : w = "number" ∨ w = "copy" ∨ w = "add" → InsV n (.tuple [.str w, .int a, .int b])
  | read (s u f : Int) : 0 ≤ u → u < (n : Int) → InsV n (.tuple [.str "read", .int s, .int u, .int f])
  | write (u f s : Int) : 0 ≤ u → u < (n : Int) → InsV n (.tuple [.str "write", .int u, .int f, .int s])
  | fail : InsV n (.tuple [.str "fail"])
theorem op_lim_inv {lims : Lims} {fs : List Int} {prev x : PyData} {k : Str} {lo hi : Int} (h : okOp lims fs prev k x = true) (hf : k ≠ "field") (hl : lims.lookup k = some (lo, hi)) : isIn x lo hi = true := by
  unfold okOp at h
  rw [if_neg hf, hl] at h
  exact h
theorem op_field_inv {lims : Lims} {fs : List Int} {prev x : PyData} (h : okOp lims fs prev "field" x = true) : ∃ i, x = .int i := by
  unfold okOp at h
  rw [if_pos rfl] at h
  split at h
  · obtain ⟨i, rfl, _⟩ := isIn_int h
    exact ⟨i, rfl⟩
  · cases h
theorem okOps_at {lims : Lims} {fs : List Int} {ds : List PyData} {ks : List Str} (h : okOps lims fs ds ks = true) (i : Nat) (hi : i < ks.length) : okOp lims fs (ds.getD i .none) (ks.getD i "") (ds.getD (i + 1) .none) = true := by
  unfold okOps at h
  rw [List.all_eq_true] at h
  exact h i (List.mem_range.mpr hi)
theorem insV_of {n : Nat} {fs : List Int} {d : PyData} (h : okIns false (limsI n) fs d = true) : InsV n d := by
  unfold okIns at h
  split at h
  · rename_i w r
    cases e : kindsOf false w with
    | none =>
      rw [e] at h
      cases h
    | some ks =>
      rw [e] at h
      have h' : (decide (r.length = ks.length) && okOps (limsI n) fs (.str w :: r) ks) = true := h
      rw [Bool.and_eq_true, decide_eq_true_eq] at h'
      obtain ⟨hl, ho⟩ := h'
      have mem : w ∈ formsI.map (·.1) := by
        have e2 : (formsI.lookup w).isSome = true := by
          unfold kindsOf at e
          split at e
          · rename_i c
            exact c
          · rw [Bool.false_and, if_neg (by decide)] at e
            cases e
        obtain ⟨x, hx⟩ := Option.isSome_iff_exists.mp e2
        have lk : ∀ {l : List (Str × List Str)}, l.lookup w = some x → w ∈ l.map (·.1) := by
          intro l
          induction l with
          | nil => intro z; cases z
          | cons a r ih =>
            obtain ⟨a1, a2⟩ := a
            intro z
            simp only [List.lookup] at z
            split at z
            · rename_i c
              rw [List.map_cons, eq_of_beq c]
              exact List.mem_cons_self
            · exact List.mem_cons_of_mem _ (ih z)
        exact lk hx
      simp only [formsI, List.map_cons, List.map_nil, List.mem_cons, List.not_mem_nil, or_false] at mem
      have two : ∀ k l, ks = [k, l] → ∃ a b, r = [a, b] ∧ okOp (limsI n) fs (.str w) k a = true ∧ okOp (limsI n) fs a l b = true := by
        rintro k l rfl
        match r, hl with
        | [a, b], _ => exact ⟨a, b, rfl, okOps_at ho 0 (by show 0 < 2; decide), okOps_at ho 1 (by show 1 < 2; decide)⟩
      have three : ∀ k l m, ks = [k, l, m] → ∃ a b c, r = [a, b, c] ∧ okOp (limsI n) fs (.str w) k a = true ∧ okOp (limsI n) fs a l b = true ∧ okOp (limsI n) fs b m c = true := by
        rintro k l m rfl
        match r, hl with
        | [a, b, c], _ => exact ⟨a, b, c, rfl, okOps_at ho 0 (by show 0 < 3; decide), okOps_at ho 1 (by show 1 < 3; decide), okOps_at ho 2 (by show 2 < 3; decide)⟩
      rcases mem with rfl | rfl | rfl | rfl | rfl | rfl
      · obtain ⟨a, b, rfl, g1, g2⟩ := two "slot" "number" (Option.some.inj (e.symm.trans rfl))
        obtain ⟨x, rfl, _⟩ := isIn_int (op_lim_inv g1 (by decide) (lo := 0) (hi := 2) rfl)
        obtain ⟨y, rfl, _⟩ := isIn_int (op_lim_inv g2 (by decide) (lo := 0) (hi := 65535) rfl)
        exact .other x y (.inl rfl)
      · obtain ⟨a, b, rfl, g1, g2⟩ := two "slot" "slot" (Option.some.inj (e.symm.trans rfl))
        obtain ⟨x, rfl, _⟩ := isIn_int (op_lim_inv g1 (by decide) (lo := 0) (hi := 2) rfl)
        obtain ⟨y, rfl, _⟩ := isIn_int (op_lim_inv g2 (by decide) (lo := 0) (hi := 2) rfl)
        exact .other x y (.inr (.inl rfl))
      · obtain ⟨a, b, rfl, g1, g2⟩ := two "slot" "number" (Option.some.inj (e.symm.trans rfl))
        obtain ⟨x, rfl, _⟩ := isIn_int (op_lim_inv g1 (by decide) (lo := 0) (hi := 2) rfl)
        obtain ⟨y, rfl, _⟩ := isIn_int (op_lim_inv g2 (by decide) (lo := 0) (hi := 65535) rfl)
        exact .other x y (.inr (.inr rfl))
      · obtain ⟨a, b, c, rfl, g1, g2, g3⟩ := three "slot" "unit" "field" (Option.some.inj (e.symm.trans rfl))
        obtain ⟨x, rfl, _⟩ := isIn_int (op_lim_inv g1 (by decide) (lo := 0) (hi := 2) rfl)
        obtain ⟨y, rfl, y0, y1⟩ := isIn_int (op_lim_inv g2 (by decide) (lo := 0) (hi := (n : Int) - 1) rfl)
        obtain ⟨z, rfl⟩ := op_field_inv g3
        exact .read x y z y0 (by omega)
      · obtain ⟨a, b, c, rfl, g1, g2, g3⟩ := three "unit" "field" "slot" (Option.some.inj (e.symm.trans rfl))
        obtain ⟨y, rfl, y0, y1⟩ := isIn_int (op_lim_inv g1 (by decide) (lo := 0) (hi := (n : Int) - 1) rfl)
        obtain ⟨z, rfl⟩ := op_field_inv g2
        obtain ⟨x, rfl, _⟩ := isIn_int (op_lim_inv g3 (by decide) (lo := 0) (hi := 2) rfl)
        exact .write y z x y0 (by omega)
      · have : ks = [] := Option.some.inj (e.symm.trans rfl)
        subst this
        have : r = [] := List.eq_nil_of_length_eq_zero hl
        subst this
        exact .fail
  · cases h
/-- a list of instructions: the units read or written before a fail -/
def nxI : List PyData → List Int
  | [] => []
  | .tuple [.str w, .int a, .int b, .int c] :: r => if w = "read" then b :: nxI r else if w = "write" then a :: nxI r else nxI r
  | .tuple [.str w] :: r => if w = "fail" then [] else nxI r
  | _ :: r => nxI r
def parD : PyData → List Int
  | .int i => [i]
  | _ => []
def nxU : PyData → List Int
  | .tuple [p, _, .tuple b] => parD p ++ nxI b
  | _ => []
def unitsD : PyData → List PyData
  | .tuple [.tuple us, _] => us
  | _ => []
/-- the units that waking a unit accesses itself -/
def nxP (d : PyData) (u : Nat) : List Nat := (nxU ((unitsD d).getD u .none)).map Int.toNat
def UnitV (n k : Nat) (d : PyData) : Prop := ∃ (p b : PyData) (fz : Int) (is : List PyData), d = .tuple [p, .int fz, b] ∧ b = .tuple is ∧ (p = .none ∨ ∃ i, p = .int i ∧ 0 ≤ i ∧ i < (k : Int)) ∧ is.length ≤ 6 ∧ ∀ x ∈ is, InsV n x
theorem prog_view {d : PyData} (h : okProg d = true) : ∃ us fns, d = .tuple [.tuple us, .tuple fns] ∧ 1 ≤ us.length ∧ us.length ≤ 6 ∧ ∀ (k : Nat) (u : PyData), us[k]? = some u → UnitV us.length k u := by
  obtain ⟨us, fns, rfl⟩ := okProg_tup h
  have h' : (okUnits (.tuple us) && okFuns (us.length : Nat) (.tuple fns) && us.all (fun u => okInit (us.map fieldsD) (bodyD u)) && (List.range fns.length).all fun i => okCode (i : Nat) (fns.length : Nat) (us.map fieldsD) (bodyD (fns.getD i .none))) = true := h
  rw [Bool.and_eq_true, Bool.and_eq_true, Bool.and_eq_true] at h'
  obtain ⟨us', e, h6, h1, hu⟩ := okUnits_tup h'.1.1.1
  cases e
  refine ⟨us, fns, rfl, h1, h6, fun k u hk => ?_⟩
  obtain ⟨p, fz, b, rfl, _, _, hp⟩ := okUnit_tup (hu k u hk)
  have hb := List.all_eq_true.mp h'.1.2 _ (List.mem_of_getElem? hk)
  have hb' : okInit (us.map fieldsD) b = true := hb
  unfold okInit at hb'
  split at hb'
  · rename_i is
    rw [Bool.and_eq_true, List.all_eq_true, List.length_map] at hb'
    refine ⟨p, _, fz, is, rfl, rfl, ?_, of_decide_eq_true hb'.1, fun x hx => insV_of (hb'.2 x hx)⟩
    rcases hp with rfl | ⟨i, rfl, i0, i1⟩
    · exact .inl rfl
    · exact .inr ⟨i, rfl, i0, by omega⟩
  · cases hb'
theorem nxI_lt {n : Nat} : ∀ {is : List PyData}, (∀ x ∈ is, InsV n x) → ∀ o ∈ nxI is, 0 ≤ o ∧ o < (n : Int)
  | [], _, o, h => by cases h
  | x :: r, hx, o, h => by
    have ih := nxI_lt (is := r) fun y hy => hx y (List.mem_cons_of_mem _ hy)
    cases hx x List.mem_cons_self with
    | other a b _ => exact ih o h
    | read s u f h0 h1 =>
      have h' : o ∈ u :: nxI r := h
      rcases List.mem_cons.mp h' with rfl | h'
      · exact ⟨h0, h1⟩
      · exact ih o h'
    | write u f s h0 h1 =>
      have h' : o ∈ u :: nxI r := h
      rcases List.mem_cons.mp h' with rfl | h'
      · exact ⟨h0, h1⟩
      · exact ih o h'
    | fail =>
      have h' : o ∈ ([] : List Int) := h
      cases h'
theorem nxU_lt {n k : Nat} {d : PyData} (h : UnitV n k d) (hk : k < n) : ∀ o ∈ nxU d, 0 ≤ o ∧ o < (n : Int) := by
  obtain ⟨p, b, fz, is, rfl, rfl, hp, _, hi⟩ := h
  intro o ho
  have ho' : o ∈ parD p ++ nxI is := ho
  rcases List.mem_append.mp ho' with q | q
  · rcases hp with rfl | ⟨i, rfl, i0, i1⟩
    · cases q
    · have q' : o ∈ [i] := q
      rw [List.mem_singleton] at q'
      omega
  · exact nxI_lt hi o q
theorem nxP_lt {d : PyData} (h : okProg d = true) : ∀ w, w < (unitsD d).length → ∀ o ∈ nxP d w, o < (unitsD d).length := by
  obtain ⟨us, fns, rfl, _, _, hv⟩ := prog_view h
  intro w hw o ho
  have hw' : w < us.length := hw
  have ho' : o ∈ (nxU (us.getD w .none)).map Int.toNat := ho
  obtain ⟨z, hz, rfl⟩ := List.mem_map.mp ho'
  rw [getD_at (List.getElem?_eq_getElem hw')] at hz
  have := nxU_lt (hv w _ (List.getElem?_eq_getElem hw')) hw' z hz
  show z.toNat < us.length
  omega
theorem nxU_ints {n k : Nat} {d : PyData} (h : UnitV n k d) (hk : k < n) : (nxU d).map V.int = ((nxU d).map Int.toNat).map fun o : Nat => V.int (o : Int) := by
  rw [List.map_map]
  refine List.map_congr_left fun o ho => ?_
  have := nxU_lt h hk o ho
  show V.int o = V.int ((o.toNat : Nat) : Int)
  rw [show ((o.toNat : Nat) : Int) = o by omega]
section
variable {P : Program} {w : World} {K : PySem.W.Frag} {mg : Str → Option Value} {base : Heap}
theorem isIn_ofR {i lo hi : Int} (h0 : lo ≤ i) (h1 : i ≤ hi) : isIn (.int i) lo hi = true := by
  show (decide (lo ≤ i) && decide (i ≤ hi)) = true
  rw [decide_eq_true h0, decide_eq_true h1]
  rfl
def accV : PyData → V
  | .tuple [.str w, .int a, .int b, .int c] => if w = "read" then .int b else if w = "write" then .int a else .non
  | _ => .non
def rIsN : R2 := fun x y H Q => y = V.non ∧ Q (V.bl (decide (x = V.non))) H
theorem InsV.word {n : Nat} {d : PyData} (h : InsV n d) : ∃ wd r, d = .tuple (.str wd :: r) := by
  cases h <;> exact ⟨_, _, rfl⟩
theorem InsV.fail_nil {n : Nat} {d : PyData} {r : List PyData} (h : InsV n d) (e : d = .tuple (.str "fail" :: r)) (l : List PyData) : nxI (d :: l) = [] := by
  cases h with
  | other a b hw =>
    cases e
    rcases hw with h | h | h <;> exact absurd h (by decide)
  | read => cases e
  | write => cases e
  | fail => rfl
theorem InsV.step {n : Nat} {d : PyData} (h : InsV n d) (e : d ≠ .tuple [.str "fail"]) (l : List PyData) : (accV d = .non ∧ nxI (d :: l) = nxI l) ∨ ∃ z, accV d = .int z ∧ nxI (d :: l) = z :: nxI l := by
  cases h with
  | other a b hw => exact .inl ⟨rfl, rfl⟩
  | read s u f => exact .inr ⟨u, rfl, rfl⟩
  | write u f s => exact .inr ⟨u, rfl, rfl⟩
  | fail => exact absurd rfl e
def numU (d : PyData) : Nat := (unitsD d).length
def natL (ns : List Nat) : List V := ns.map fun o : Nat => V.int (o : Int)
def spNeedP : Sp := fun vs H Q _ => ∃ (v : V) (d : PyData), vs = [v] ∧ Da H v d ∧ okProg d = true ∧ Ret .non H Q
theorem ok_need_program (T : TReach K w.params mg) : Ok P w K mg base CX0 7 "need_program" ["program"] spNeedP := by
  have G_is_program : Ok P w K mg base CX0 6 "is_program" ["thing"] spProg := ok_is_program T.toTProg
  refine T.d_need_program.ok sc_need_program bi_need_program (fun vs H Q E h => ?_) (fun cdv A outer s H f vs Q E hr h => ?_)
  · obtain ⟨v, d, rfl, _⟩ := h
    rfl
  · obtain ⟨v, d, rfl, hd, ok, q⟩ := h
    refine ⟨_, (pss_one (ps_if (pt_not (pt_val (pe_callO G_is_program (hr.mono (by decide)) (pa_cons (pv 0) pa_nil)))) (pss_one ps_never) pss_nil)), ?_⟩
    exact ⟨v, rfl, v, d, rfl, hd, fun H1 e => ⟨_, rfl, by rw [ok]; exact q H1 e⟩⟩
def spNeedU : Sp := fun vs H Q _ => ∃ (v : V) (d : PyData) (u : Nat), vs = [v, .int (u : Nat)] ∧ Da H v d ∧ okProg d = true ∧ u < numU d ∧ Ret .non H Q
theorem ok_need_unit (T : TReach K w.params mg) : Ok P w K mg base CX0 4 "need_unit" ["program", "unit"] spNeedU := by
  have G_is_index : Ok P w K mg base CX0 3 "is_index" ["thing", "many"] spIndex := ok_is_index T.toTProg
  refine T.d_need_unit.ok sc_need_unit bi_need_unit (fun vs H Q E h => ?_) (fun cdv A outer s H f vs Q E hr h => ?_)
  · obtain ⟨v, d, u, rfl, _⟩ := h
    rfl
  · obtain ⟨v, d, u, rfl, hd, ok, hu, q⟩ := h
    refine ⟨_, (pss_one (ps_if (pt_not (pt_val (pe_callO G_is_index (hr.mono (by decide)) (pa_cons (pv 1) (pa_cons (pe_callB call_len_seq (by rfl) T.b_len (by decide +kernel) (pa_cons (pe_ix ix_tup (pv 0) pe_int (fun _ _ => rfl)) pa_nil)) pa_nil))))) (pss_one ps_never) pss_nil)), ?_⟩
    obtain ⟨us, fns, rfl, _⟩ := prog_view ok
    obtain ⟨a, xs, rfl, ha, hds⟩ := Da.tupl hd
    cases hds with
    | @cons v1 r1 _ _ g1 hds =>
    obtain ⟨a1, xs1, rfl, ha1, hds1⟩ := Da.tupl g1
    refine ⟨_, rfl, _, rfl, a, _, 0, _, rfl, rfl, st_of ha, atI_nat (j := 0) rfl, a1, xs1, rfl, .inr (st_of ha1), ?_⟩
    have hl : (xs1.length : Int) = (us.length : Nat) := by rw [hds1.len]
    refine ⟨_, .int (u : Nat), (xs1.length : Int), rfl, .int _, fun H1 e => ⟨_, rfl, ?_⟩⟩
    have hu' : u < us.length := hu
    rw [isIn_ofR (by omega) (by rw [hl]; omega)]
    exact q H1 e
/-! #### the accesses of a waking -/
def spAccU : Sp := fun vs H Q _ => ∃ (v x : V) (dx : PyData) (n : Nat), vs = [v, x] ∧ Da H x dx ∧ InsV n dx ∧ Ret (accV dx) H Q
theorem ok_accessed_unit (T : TReach K w.params mg) : Ok P w K mg base CX0 1 "accessed_unit" ["program", "instruction"] spAccU := by
  refine T.d_accessed_unit.ok sc_accessed_unit bi_accessed_unit (fun vs H Q E h => ?_) (fun cdv A outer s H f vs Q E hr h => ?_)
  · obtain ⟨v, x, dx, n, rfl, _⟩ := h
    rfl
  · obtain ⟨v, x, dx, n, rfl, hd, hv, q⟩ := h
    refine ⟨_, (pss_cons (ps_set (i := 2) sc_accessed_unit.nd rfl (Or.inl rfl) (pe_ix ix_tup (pv 1) pe_int (fun _ _ => rfl)))
    (pss_cons (ps_if (pt_cmpR op_eq (pv 2) pe_str (nomark _)) (pss_one (ps_ret (pe_ix ix_tup (pv 1) pe_int (fun _ _ => rfl)))) pss_nil)
    (pss_cons (ps_if (pt_cmpR op_in_seq (pv 2) (pe_tup (pa_cons pe_str (pa_cons pe_str pa_nil))) (by rfl)) (pss_one (ps_ret (pe_ix ix_tup (pv 1) pe_int (fun _ _ => rfl)))) pss_nil)
    (pss_cons (ps_if (pt_cmpR op_eq (pv 2) pe_str (nomark _)) (pss_one (ps_ret (pe_ix ix_tup (pe_ix ix_tup (pe_ix ix_tup (pv 0) pe_int (fun _ _ => rfl)) (pe_ix ix_tup (pv 1) pe_int (fun _ _ => rfl)) (fun _ _ => rfl)) pe_int (fun _ _ => rfl)))) pss_nil)
    (pss_one (ps_ret pe_non)))))), ?_⟩
    have view : (∃ wd r, dx = .tuple (.str wd :: r) ∧ (wd = "number" ∨ wd = "copy" ∨ wd = "add" ∨ wd = "fail") ∧ accV dx = .non) ∨ (∃ s' u f', dx = .tuple [.str "read", .int s', .int u, .int f']) ∨ ∃ u f' s', dx = .tuple [.str "write", .int u, .int f', .int s'] := by
      cases hv with
      | other a b hw => exact .inl ⟨_, _, rfl, by rcases hw with h | h | h; exact .inl h; exact .inr (.inl h); exact .inr (.inr (.inl h)), rfl⟩
      | fail => exact .inl ⟨_, _, rfl, .inr (.inr (.inr rfl)), rfl⟩
      | read s' u f' _ _ => exact .inr (.inl ⟨s', u, f', rfl⟩)
      | write u f' s' _ _ => exact .inr (.inr ⟨u, f', s', rfl⟩)
    rcases view with ⟨wd, r, rfl, hw, hn⟩ | ⟨s', u, f', rfl⟩ | ⟨u, f', s', rfl⟩
    · rw [hn] at q
      obtain ⟨t, xs, rfl, ht, hds⟩ := Da.tupl hd
      cases hds with
      | @cons v1 r1 _ _ g1 hds =>
      cases g1
      refine ⟨_, rfl, t, _, 0, _, rfl, rfl, st_of ht, atI_nat (j := 0) rfl, ?_⟩
      refine ⟨_, rfl, rfl, _, rfl, ite2 (fun c => absurd c (by rcases hw with rfl | rfl | rfl | rfl <;> decide +kernel)) (fun _ => ?_)⟩
      refine ⟨_, rfl, sz_of (by show 2 ≤ 100000; decide), fun p np => ⟨p, _, rfl, .inr (st_of upd_same), rfl, rfl, _, rfl, ite2 (fun c => absurd c (by rcases hw with rfl | rfl | rfl | rfl <;> decide +kernel)) (fun _ => ?_)⟩⟩
      refine ⟨_, rfl, rfl, _, rfl, ite2 (fun c => absurd c (by rcases hw with rfl | rfl | rfl | rfl <;> decide +kernel)) (fun _ => ?_)⟩
      exact q _ (Evl.Ex.new np)
    · obtain ⟨t, xs, rfl, ht, hds⟩ := Da.tupl hd
      cases hds with
      | @cons v1 r1 _ _ g1 hds =>
      cases hds with
      | @cons v2 r2 _ _ g2 hds =>
      cases hds with
      | @cons v3 r3 _ _ g3 hds =>
      cases g1
      cases g3
      refine ⟨_, rfl, t, _, 0, _, rfl, rfl, st_of ht, atI_nat (j := 0) rfl, ?_⟩
      refine ⟨_, rfl, rfl, _, rfl, ite2 (fun _ => ?_) (fun c => absurd (by decide +kernel) c)⟩
      exact ⟨_, rfl, t, _, 2, _, rfl, rfl, st_of ht, atI_nat (j := 2) rfl, q _ (Evl.Ex.refl _)⟩
    · obtain ⟨t, xs, rfl, ht, hds⟩ := Da.tupl hd
      cases hds with
      | @cons v1 r1 _ _ g1 hds =>
      cases hds with
      | @cons v2 r2 _ _ g2 hds =>
      cases g1
      cases g2
      refine ⟨_, rfl, t, _, 0, _, rfl, rfl, st_of ht, atI_nat (j := 0) rfl, ?_⟩
      refine ⟨_, rfl, rfl, _, rfl, ite2 (fun c => absurd c (by decide +kernel)) (fun _ => ?_)⟩
      refine ⟨_, rfl, sz_of (by show 2 ≤ 100000; decide), fun p np => ⟨p, _, rfl, .inr (st_of upd_same), rfl, rfl, _, rfl, ite2 (fun _ => ?_) (fun c => absurd (by decide +kernel) c)⟩⟩
      exact ⟨_, rfl, t, _, 1, _, rfl, rfl, st_of (Evl.Ex.new np _ _ ht), atI_nat (j := 1) rfl, q _ (Evl.Ex.new np)⟩
def parL (p : PyData) : List V := (parD p).map V.int
def spAcc : Sp := fun vs H Q _ => ∃ (v : V) (d : PyData) (u : Nat), vs = [v, .int (u : Nat)] ∧ Da H v d ∧ okProg d = true ∧ u < numU d ∧ RetL (natL (nxP d u)) H Q
theorem ok_acc (T : TReach K w.params mg) : Ok P w K mg base CX0 2 "_accessed_in_waking" ["program", "unit"] spAcc := by
  have G_accessed_unit : Ok P w K mg base CX0 1 "accessed_unit" ["program", "instruction"] spAccU := ok_accessed_unit T
  refine T.d_acc.ok sc__accessed_in_waking bi__accessed_in_waking (fun vs H Q E h => ?_) (fun cdv A outer s H f vs Q E hr h => ?_)
  · obtain ⟨v, d, u, rfl, _⟩ := h
    rfl
  · obtain ⟨v, d, u, rfl, hd, ok, hu, q⟩ := h
    refine ⟨_, (pss_cons (ps_asg (pe_ix ix_tup (pe_ix ix_tup (pv 0) pe_int (fun _ _ => rfl)) (pv 1) (fun _ _ => rfl)) (pg_tup rfl (pgs_cons (pg_name (i := 2) sc__accessed_in_waking.nd rfl (Or.inl rfl)) (pgs_cons (pg_name (i := 3) sc__accessed_in_waking.nd rfl (Or.inl rfl)) (pgs_cons (pg_name (i := 4) sc__accessed_in_waking.nd rfl (Or.inl rfl)) pgs_nil)))))
    (pss_cons (ps_set (i := 5) sc__accessed_in_waking.nd rfl (Or.inl rfl) (pe_ifExp (pt_cmpR op_isN (pv 2) pe_non (nomark _)) (pe_lst pa_nil) (pe_lst (pa_cons (pv 2) pa_nil))))
    (pss_cons (ps_for PassesOwn.never rfl (pi_tup (pv 4)) (pg_name (i := 6) sc__accessed_in_waking.nd rfl (Or.inl rfl)) (pss_cons (ps_if (pt_cmpR op_eq (pe_ix ix_tup (pv 6) pe_int (fun _ _ => rfl)) pe_str (nomark _)) (pss_one ps_break) pss_nil)
    (pss_cons (ps_set (i := 7) sc__accessed_in_waking.nd rfl (Or.inl rfl) (pe_callO G_accessed_unit (hr.mono (by decide)) (pa_cons (pv 0) (pa_cons (pv 6) pa_nil))))
    (pss_one (ps_if (pt_cmpR op_notN (pv 7) pe_non (nomark _)) (pss_one (ps_expr (pe_bm PySem.F.plainAttrs_list PySem.F.slot_list_append PySem.F.type_list_append mt_append (pv 5) (pa_cons (pv 7) pa_nil)))) pss_nil)))))
    (pss_one (ps_ret (pv 5)))))), ?_⟩
    obtain ⟨us, fns, rfl, _, u6, hv⟩ := prog_view ok
    have hu' : u < us.length := hu
    obtain ⟨du, hdu⟩ : ∃ du, us[u]? = some du := ⟨_, List.getElem?_eq_getElem hu'⟩
    obtain ⟨dp, db, fz, is, rfl, rfl, hp, hil, hi⟩ := hv u du hdu
    obtain ⟨a, xs, rfl, ha, hds⟩ := Da.tupl hd
    cases hds with
    | @cons v1 r1 _ _ g1 hds =>
    obtain ⟨a1, xs1, rfl, ha1, hds1⟩ := Da.tupl g1
    obtain ⟨vu, hvu, gu⟩ := hds1.of hdu
    obtain ⟨a2, xs2, rfl, ha2, hds2⟩ := Da.tupl gu
    cases hds2 with
    | @cons w1 r1 _ _ e1 hds2 =>
    cases hds2 with
    | @cons w2 r2 _ _ e2 hds2 =>
    cases hds2 with
    | @cons w3 r3 _ _ e3 hds2 =>
    cases hds2
    obtain ⟨a3, xs3, rfl, ha3, hds3⟩ := Da.tupl e3
    have eL : natL (nxP (.tuple [.tuple us, .tuple fns]) u) = (parD dp ++ nxI is).map V.int := by
      have := nxU_ints (hv u _ hdu) hu'
      unfold natL nxP
      rw [show (unitsD (.tuple [.tuple us, .tuple fns])).getD u .none = .tuple [dp, .int fz, .tuple is] from getD_at hdu]
      exact this.symm
    rw [eL] at q
    refine ⟨_, rfl, a, _, 0, _, rfl, rfl, st_of ha, atI_nat (j := 0) rfl, _, rfl, a1, xs1, (u : Nat), _, rfl, rfl, st_of ha1, atI_nat hvu, a2, _, rfl, st_of ha2, rfl, _, _, rfl, _, _, rfl, _, _, rfl, rfl, ?_⟩
    -- units
    have evp : EvL (tIf (tTest (tOp rIsN (tVar 2) (tC .non))) (tLst tNil) (tLst (tCons (tVar 2) tNil))) [some (.ref a), some (.int (u : Nat)), some w1, some w2, some (.ref a3), none, none, none] H ((parD dp).map V.int) := by
      intro H1 e Q' q'
      rcases hp with rfl | ⟨i, rfl, _⟩
      · cases e1
        exact ⟨_, rfl, rfl, _, rfl, ite2 (fun _ => ⟨sz_of (by show 0 ≤ 100000; decide), fun l nl => q' l _ nl (Evl.Ex.new nl) upd_same⟩) (fun c => absurd rfl c)⟩
      · cases e1
        exact ⟨_, rfl, rfl, _, rfl, ite2 (fun c => absurd c (by simp)) (fun _ => ⟨_, rfl, sz_of (by show 1 ≤ 100000; decide), fun l nl => q' l _ nl (Evl.Ex.new nl) upd_same⟩)⟩
    refine q_asgL evp fun l H1 nl x1 hl => ?_
    refine Evl.q_forT (ev_var rfl) (st_of (x1 _ _ ha3)) (fun i σ H' => ∃ y6 y7 ns, σ = [some (.ref a), some (.int (u : Nat)), some w1, some w2, some (.ref a3), some (.ref l), y6, y7] ∧ Ex H H' ∧ H' l = some (.lst (ns.map V.int)) ∧ parD dp ++ nxI is = ns ++ nxI (is.drop i) ∧ ns.length ≤ 10 + i)
      (fun H2 x2 => ⟨none, none, parD dp, rfl, x1.trans x2, x2 _ _ hl, rfl, by rcases hp with rfl | ⟨i, rfl, _⟩ <;> simp [parD]⟩) (fun i σ' H' _ ⟨_, _, _, _, x2, _⟩ => st_of (x2 _ _ ha3)) ?_ ?_
    · rintro i x σ' H' hx ⟨y6, y7, ns, rfl, x2, hl2, en, nl10⟩
      obtain ⟨dx, hdx, dd⟩ := hds3.at hx
      have ilt := (List.getElem?_eq_some_iff.mp hdx).1
      have vx := hi dx (List.mem_of_getElem? hdx)
      have edrop : is.drop i = dx :: is.drop (i + 1) := by
        rw [List.drop_eq_getElem_cons ilt]
        congr 1
        exact (List.getElem?_eq_some_iff.mp hdx).2
      rw [edrop] at en
      have dd2 := dd.ex x2
      obtain ⟨wd, r, edx⟩ := vx.word
      obtain ⟨t, ys, rfl, ht, hys⟩ : ∃ t ys, x = .ref t ∧ H' t = some (.tup ys) ∧ DaAll H' ys (.str wd :: r) := by
        rw [edx] at dd2
        exact Da.tupl dd2
      cases hys with
      | @cons v1 r1 _ _ g1 hys =>
      cases g1
      refine ⟨_, rfl, t, _, 0, _, rfl, rfl, st_of ht, atI_nat (j := 0) rfl, rfl, _, rfl, ite2 (fun c => ?_) (fun c => ?_)⟩
      · -- a fail
        have wf : wd = "fail" := by simpa using of_decide_eq_true c
        have z := vx.fail_nil (edx.trans (by rw [wf])) (is.drop (i + 1))
        rw [z, List.append_nil] at en
        refine ⟨_, rfl, ?_⟩
        rw [en] at q
        exact q l H' nl x2 hl2
      · have wf : wd ≠ "fail" := fun e => c (by rw [e]; rfl)
        have z := vx.step (fun e => wf (by rw [edx] at e; cases e; rfl)) (is.drop (i + 1))
        refine q_asg (sv_ret (z := accV dx) (fun H3 e Q' q' => ⟨_, _, dx, _, rfl, dd2.ex e, vx, q'⟩) (ea_cons (ev_var rfl) (ea_cons (ev_var rfl) ea_nil))) fun H3 x3 => ?_
        have hl3 := x3 _ _ hl2
        rcases z with ⟨z1, z2⟩ | ⟨o, z1, z2⟩
        · rw [z1]
          rw [z2] at en
          exact ⟨_, rfl, rfl, _, rfl, ite2 (fun c => absurd c (by simp)) (fun _ => ⟨_, _, ns, rfl, x2.trans x3, hl3, en, by omega⟩)⟩
        · rw [z1]
          rw [z2] at en
          refine ⟨_, rfl, rfl, _, rfl, ite2 (fun _ => ?_) (fun c => absurd (by simp) c)⟩
          refine ⟨_, rfl, Or.inl ⟨rfl, _, .inl (.inl hl3)⟩, _, rfl, l, _, _, rfl, rfl, hl3, sz_lt (by rw [List.length_map]; omega), ?_⟩
          refine ⟨_, _, ns ++ [o], rfl, Evl.Ex.mut (x2.trans x3) nl, ?_, by rw [en, List.append_assoc]; rfl, by rw [List.length_append]; show ns.length + 1 ≤ _; omega⟩
          rw [upd_same, List.map_append]
          rfl
    · rintro σ' H' ⟨y6, y7, ns, rfl, x2, hl2, en, nl10⟩
      rw [List.drop_of_length_le (by rw [hds3.len]; exact Nat.le_refl _)] at en
      rw [en, show nxI [] = [] from rfl, List.append_nil] at q
      exact ⟨_, rfl, q l H' nl x2 hl2⟩
/-! #### the search -/
def gP (e : Ent) : V := match e.2.1 with
  | none => .non
  | some w => .int (w : Int)
def gD (e : Ent) : V := .int (e.2.2 : Int)
def keysE (E : List Ent) : List V := natL (E.map (·.1))
def RetD (kvs : List (Key × V)) (H : Hp) (Q : VK) : Prop := ∀ p H2, H p = none → Ex H H2 → H2 p = some (.dK kvs) → Q (.ref p) H2
theorem natL_at {ns : List Nat} {i : Nat} {x : V} (h : (natL ns)[i]? = some x) : ∃ o, ns[i]? = some o ∧ x = .int (o : Int) := by
  unfold natL at h
  rw [List.getElem?_map] at h
  obtain ⟨o, h1, h2⟩ := Option.map_eq_some_iff.mp h
  exact ⟨o, h1, h2.symm⟩
theorem natL_of {ns : List Nat} {i o : Nat} (h : ns[i]? = some o) : (natL ns)[i]? = some (V.int (o : Int)) := by
  unfold natL
  rw [List.getElem?_map, h]
  rfl
theorem keysE_add {E : List Ent} {w dp o : Nat} (h : hasE E o = false) : keysE (add1 w dp E o) = keysE E ++ [.int (o : Int)] := by
  unfold add1
  rw [if_neg (by rw [h]; exact Bool.false_ne_true)]
  unfold keysE natL
  rw [List.map_append, List.map_append]
  rfl
theorem keysE_at {E : List Ent} {i : Nat} {e : Ent} (h : E[i]? = some e) : (keysE E)[i]? = some (V.int (e.1 : Int)) := natL_of (by rw [List.getElem?_map, h]; rfl)
def spBef : Sp := fun vs H Q _ => ∃ (v : V) (d : PyData) (u : Nat), vs = [v, .int (u : Nat)] ∧ Da H v d ∧ okProg d = true ∧ u < numU d ∧ RetD (kvsG gP (bfs (nxP d) u (numU d))) H Q
theorem numU_le {d : PyData} (h : okProg d = true) : numU d ≤ 6 := by
  obtain ⟨us, fns, rfl, _, h6, _⟩ := prog_view h
  exact h6
theorem ok_bef (T : TReach K w.params mg) : Ok P w K mg base CX0 3 "_befores" ["program", "unit"] spBef := by
  have G__accessed_in_waking : Ok P w K mg base CX0 2 "_accessed_in_waking" ["program", "unit"] spAcc := ok_acc T
  refine T.d_befores.ok sc__befores bi__befores (fun vs H Q E h => ?_) (fun cdv A outer s H f vs Q E hr h => ?_)
  · obtain ⟨v, d, u, rfl, _⟩ := h
    rfl
  · obtain ⟨v, d, u, rfl, hd, ok, hu, q⟩ := h
    refine ⟨_, (pss_cons (ps_set (i := 2) sc__befores.nd rfl (Or.inl rfl) (pe_disp (pps_cons (pv 1) pe_non pps_nil) (by rfl) (by rfl) (fun z => by cases z) (by decide)))
    (pss_cons (ps_set (i := 3) sc__befores.nd rfl (Or.inl rfl) (pe_lst (pa_cons (pv 1) pa_nil)))
    (pss_cons (ps_set (i := 4) sc__befores.nd rfl (Or.inl rfl) pe_int)
    (pss_cons (ps_while PassesOwn.never (pt_cmpR op_lt (pv 4) (pe_callB call_len_seq (by rfl) T.b_len (by decide +kernel) (pa_cons (pv 3) pa_nil)) (nomark _)) (pss_cons (ps_for PassesOwn.never rfl (pi_list (pe_callO G__accessed_in_waking (hr.mono (by decide)) (pa_cons (pv 0) (pa_cons (pe_ix ix_list (pv 3) (pv 4) (fun _ _ => rfl)) pa_nil)))) (pg_name (i := 5) sc__befores.nd rfl (Or.inl rfl)) (pss_one (ps_if (pt_cmp (pc_dnotin (hu_of hr) (pv 5) (pv 2))) (pss_cons (ps_dput (hu_of hr) (pv 2) (pv 5) (pe_ix ix_list (pv 3) (pv 4) (fun _ _ => rfl)) rfl)
    (pss_one (ps_expr (pe_bm PySem.F.plainAttrs_list PySem.F.slot_list_append PySem.F.type_list_append mt_append (pv 3) (pa_cons (pv 5) pa_nil))))) pss_nil)))
    (pss_one (ps_aug (i := 4) sc__befores.nd rfl (Or.inl rfl) pe_int ip_add))))
    (pss_one (ps_ret (pv 2))))))), ?_⟩
    have hn := nxP_lt ok
    have n6 := numU_le ok
    have gst := good_stE (nx := nxP d) (u := u) (n := numU d) hu hn
    -- befores, found, at
    refine fun b nb => ⟨_, rfl, upd_same, [(.inl (u : Int), .non)], rfl, (by show 1 ≤ 15; decide), ?_⟩
    have ex1 : Ex H (upd (upd H b (.dK [])) b (.dK (mergeK [] [(.inl (u : Int), .non)]))) := Evl.Ex.mut (Evl.Ex.new nb) nb
    have hb1 : (upd (upd H b (.dK [])) b (.dK (mergeK [] [(.inl (u : Int), .non)]))) b = some (.dK (kvsG gP (stE (nxP d) u 0))) := upd_same
    generalize upd (upd H b (.dK [])) b (.dK (mergeK [] [(.inl (u : Int), .non)])) = H1 at ex1 hb1 ⊢
    refine ⟨_, rfl, sz_of (by show 1 ≤ 100000; decide), fun fl nfl => ?_⟩
    have bfl : b ≠ fl := ne_of_none hb1 nfl
    have nfl0 : H fl = none := fresh_back ex1 nfl
    have ex2 : Ex H (upd H1 fl (.lst [.int (u : Int)])) := ex1.trans (Evl.Ex.new nfl)
    have hb2 : (upd H1 fl (.lst [.int (u : Int)])) b = some (.dK (kvsG gP (stE (nxP d) u 0))) := by rw [upd_ne bfl]; exact hb1
    have hf2 : (upd H1 fl (.lst [.int (u : Int)])) fl = some (.lst (keysE (stE (nxP d) u 0))) := upd_same
    generalize upd H1 fl (.lst [.int (u : Int)]) = H2 at ex2 hb2 hf2 ⊢
    refine Evl.q_while (fun m σ H' => ∃ (k : Nat) (y5 : Option V), σ = [some v, some (.int (u : Int)), some (.ref b), some (.ref fl), some (.int (k : Int)), y5] ∧ Ex H H' ∧ H' b = some (.dK (kvsG gP (stE (nxP d) u k))) ∧ H' fl = some (.lst (keysE (stE (nxP d) u k))) ∧
      k ≤ (stE (nxP d) u k).length ∧ m + k = numU d + 1) (numU d + 1) ⟨0, none, rfl, ex2, hb2, hf2, Nat.zero_le _, rfl⟩ ?_
    rintro m σ' H' ⟨k, y5, rfl, x2, hb, hf, kl, hm⟩
    have klen : (keysE (stE (nxP d) u k)).length = (stE (nxP d) u k).length := by unfold keysE natL; rw [List.length_map, List.length_map]
    refine ⟨decide ((k : Int) < ((stE (nxP d) u k).length : Int)), ?_, fun c H3 x3 => ?_, fun c H3 x3 => ?_⟩
    · intro H3 e Q' q'
      exact ⟨_, rfl, _, rfl, fl, _, rfl, .inl (.inl (.inl (e _ _ hf))), _, _, rfl, rfl, _, rfl, by rw [klen]; exact q' H3 (Evl.Ex.refl _)⟩
    · -- one more
      have klt : k < (stE (nxP d) u k).length := by have := of_decide_eq_true c; omega
      obtain ⟨e0, he0⟩ : ∃ e, (stE (nxP d) u k)[k]? = some e := ⟨_, List.getElem?_eq_getElem klt⟩
      obtain ⟨w, q0, dp⟩ := e0
      have wn : w < numU d := (gst k).lt _ (List.mem_of_getElem? he0)
      have est := stE_next he0
      refine ⟨fun σ2 H2 => ∃ y5, σ2 = [some v, some (.int (u : Int)), some (.ref b), some (.ref fl), some (.int ((k + 1 : Nat) : Int)), y5] ∧ Ex H H2 ∧ H2 b = some (.dK (kvsG gP (stE (nxP d) u (k + 1)))) ∧ H2 fl = some (.lst (keysE (stE (nxP d) u (k + 1)))), ?_, ?_⟩
      · rintro σ2 H2 ⟨y5, rfl, x4, hb4, hf4⟩
        have := (gst k).len
        refine ⟨m - 1, by omega, k + 1, y5, rfl, x4, hb4, hf4, ?_, by omega⟩
        rw [est]
        obtain ⟨t, ht, _⟩ := addE_app (w := w) (dp := dp) (os := nxP d w) (E := stE (nxP d) u k)
        rw [ht, List.length_append]
        omega
      · have hb3 := x3 _ _ hb
        have hf3 := x3 _ _ hf
        have evl : EvL (tCall spAcc [] E0 (tCons (tVar 0) (tCons (tOp (rIxL K) (tVar 3) (tVar 4)) tNil))) [some v, some (.int (u : Int)), some (.ref b), some (.ref fl), some (.int (k : Int)), y5] H3 (natL (nxP d w)) := by
          intro H4 e Q' q'
          refine ⟨_, rfl, _, rfl, _, rfl, fl, _, (k : Int), _, rfl, rfl, .inl (.inl (e _ _ hf3)), atI_nat (keysE_at he0), v, d, w, rfl, ((hd.ex (x2.trans x3)).ex e), ok, wn, fun p H5 np x5 h5 => q' p H5 np x5 h5⟩
        refine Evl.q_forNLn evl (fun p i σ' H' => ∃ y5, σ' = [some v, some (.int (u : Int)), some (.ref b), some (.ref fl), some (.int (k : Int)), y5] ∧ Ex H H' ∧ H' b = some (.dK (kvsG gP (addE w dp (stE (nxP d) u k) ((nxP d w).take i)))) ∧ H' fl = some (.lst (keysE (addE w dp (stE (nxP d) u k) ((nxP d w).take i)))) ∧ H' p = some (.lst (natL (nxP d w))) ∧ p ≠ b ∧ p ≠ fl)
          (fun p H4 np x4 h4 => ⟨y5, rfl, (x2.trans x3).trans x4, x4 _ _ hb3, x4 _ _ hf3, h4, fun z => ?_, fun z => ?_⟩) (fun p i σ' H' _ ⟨_, _, _, _, _, h, _⟩ => .inl (.inl h)) ?_ ?_
        · rw [z, hb3] at np
          cases np
        · rw [z, hf3] at np
          cases np
        · rintro p i x σ' H4 hx ⟨y5, rfl, x4, hb4, hf4, hp4, pb, pf⟩
          obtain ⟨o, ho, rfl⟩ := natL_at hx
          have et := addE_take (E := stE (nxP d) u k) (w := w) (dp := dp) ho
          obtain ⟨t, htk, _⟩ := addE_app (w := w) (dp := dp) (os := (nxP d w).take i) (E := stE (nxP d) u k)
          have ge := good_addE (os := (nxP d w).take i) (gst k) he0 fun o ho => ⟨List.mem_of_mem_take ho, hn w wn o (List.mem_of_mem_take ho)⟩
          have hk' : (addE w dp (stE (nxP d) u k) ((nxP d w).take i))[k]? = some (w, q0, dp) := by rw [htk]; exact at_app he0
          generalize addE w dp (stE (nxP d) u k) ((nxP d w).take i) = E4 at hb4 hf4 et ge hk'
          rw [et]
          refine ⟨_, rfl, _, rfl, b, _, rfl, .inl ⟨_, .inl (o : Int), .inl hb4, rfl, rfl⟩, _, rfl, ?_⟩
          rw [kvsG_has]
          have elen := ge.len
          have klen4 : (keysE E4).length = E4.length := by unfold keysE natL; rw [List.length_map, List.length_map]
          cases c : hasE E4 o with
          | true =>
            refine ite2 (fun z => by cases z) (fun _ => ⟨_, rfl, x4, ?_, ?_, hp4, pb, pf⟩)
            · rw [add1, if_pos c]; exact hb4
            · rw [add1, if_pos c]; exact hf4
          | false =>
            refine ite2 (fun _ => ?_) (fun z => absurd rfl z)
            refine ⟨_, rfl, _, rfl, fl, _, (k : Int), _, rfl, rfl, .inl (.inl hf4), atI_nat (keysE_at hk'), _, rfl, _, rfl, b, _, rfl, .inl ⟨_, .inl (o : Int), hb4, rfl, sz_lt (by unfold kvsG; rw [List.length_map]; omega), rfl⟩, ?_⟩
            rw [kvsG_put (g := gP) (w := w) (dp := dp) (v := .int (w : Int)) c rfl]
            have hf5 : (upd H4 b (.dK (kvsG gP (add1 w dp E4 o)))) fl = some (.lst (keysE E4)) := by rw [upd_ne (fun z => bfl z.symm)]; exact hf4
            refine ⟨_, rfl, Or.inl ⟨rfl, _, .inl (.inl hf5)⟩, _, rfl, fl, _, _, rfl, rfl, hf5, sz_lt (by rw [klen4]; omega), _, rfl, Evl.Ex.mut (Evl.Ex.mut x4 nb) nfl0, ?_, ?_, ?_, pb, pf⟩
            · rw [upd_ne bfl, upd_same]
            · rw [upd_same, keysE_add c]
            · rw [upd_ne pf, upd_ne pb]
              exact hp4
        · rintro p σ' H4 ⟨y5, rfl, x4, hb4, hf4, hp4, pb, pf⟩
          rw [List.take_of_length_le (by unfold natL; rw [List.length_map]; exact Nat.le_refl _), ← est] at hb4 hf4
          exact ⟨_, rfl, (k : Int), 1, rfl, rfl, _, rfl, x4, hb4, hf4⟩
    · -- the end
      have fin : FinE (nxP d) u (stE (nxP d) u k) := ⟨k, rfl, by have := of_decide_eq_false c; omega⟩
      rw [fin.uniq (bfs_fin hu hn)] at hb
      exact ⟨_, rfl, q b H3 nb (x2.trans x3) (x3 _ _ hb)⟩
theorem GoodE.deep {nx : Nat → List Nat} {u n : Nat} {E : List Ent} (g : GoodE nx u n E) : ∀ (i : Nat) (e : Ent), E[i]? = some e → e.2.2 ≤ i := by
  intro i
  induction i using Nat.strongRecOn with
  | _ i ih =>
    intro e he
    by_cases z : i = 0
    · subst z
      rw [g.hd] at he
      cases he
      exact Nat.le_refl _
    · obtain ⟨j, w, q, dp, hj, h1, h2, _⟩ := g.pr i e he (Nat.pos_of_ne_zero z)
      have := ih j hj _ h1
      rw [h2]
      show dp + 1 ≤ i
      have : dp ≤ j := this
      omega
/-! #### reach, chain -/
def keysI (E : List Ent) : List Int := E.map fun e => (e.1 : Int)
def RetS (ks : List Int) (H : Hp) (Q : VK) : Prop := ∀ p H2 ys, List.Perm ys ks → ys.Pairwise (· ≤ ·) → H p = none → Ex H H2 → H2 p = some (.tup (ys.map V.int)) → Q (.ref p) H2
def spReach : Sp := fun vs H Q _ => ∃ (v : V) (d : PyData) (u : Nat), vs = [v, .int (u : Nat)] ∧ Da H v d ∧ okProg d = true ∧ u < numU d ∧ RetS (keysI (bfs (nxP d) u (numU d))) H Q
theorem bfs_good {d : PyData} {u : Nat} (ok : okProg d = true) (hu : u < numU d) : GoodE (nxP d) u (numU d) (bfs (nxP d) u (numU d)) := (bfs_fin hu (nxP_lt ok)).good hu (nxP_lt ok)
theorem ok_reach (T : TReach K w.params mg) : Ok P w K mg base CX0 8 "reach" ["program", "unit"] spReach := by
  have G_need_program : Ok P w K mg base CX0 7 "need_program" ["program"] spNeedP := ok_need_program T
  have G_need_unit : Ok P w K mg base CX0 4 "need_unit" ["program", "unit"] spNeedU := ok_need_unit T
  have G__befores : Ok P w K mg base CX0 3 "_befores" ["program", "unit"] spBef := ok_bef T
  refine T.d_reach.ok sc_reach bi_reach (fun vs H Q E h => ?_) (fun cdv A outer s H f vs Q E hr h => ?_)
  · obtain ⟨v, d, u, rfl, _⟩ := h
    rfl
  · obtain ⟨v, d, u, rfl, hd, ok, hu, q⟩ := h
    refine ⟨_, (pss_cons (ps_expr (pe_callO G_need_program (hr.mono (by decide)) (pa_cons (pv 0) pa_nil)))
    (pss_cons (ps_expr (pe_callO G_need_unit (hr.mono (by decide)) (pa_cons (pv 0) (pa_cons (pv 1) pa_nil))))
    (pss_one (ps_ret (pe_callTy call_tuple_of (by rfl) T.b_tuple (by decide +kernel) (pa_cons (pe_callB (call_sortedDI rfl) (by rfl) T.b_sorted (by decide +kernel) (pa_cons (pe_callO G__befores (hr.mono (by decide)) (pa_cons (pv 0) (pa_cons (pv 1) pa_nil))) pa_nil)) pa_nil)))))), ?_⟩
    have g := bfs_good ok hu
    have n6 := numU_le ok
    refine ⟨_, rfl, v, d, rfl, hd, ok, fun H1 x1 => ?_⟩
    refine ⟨_, rfl, _, rfl, v, d, u, rfl, hd.ex x1, ok, hu, fun H2 x2 => ?_⟩
    have x12 := x1.trans x2
    refine ⟨_, rfl, _, rfl, v, d, u, rfl, hd.ex x12, ok, hu, fun b H3 nb x3 hb => ?_⟩
    refine ⟨b, _, keysI (bfs (nxP d) u (numU d)), rfl, .inl hb, kvsG_keys, ?_, fun ys p hy hs np => ?_⟩
    · unfold keysI
      rw [List.length_map]
      have := g.len
      omega
    · refine ⟨p, ys.map V.int, rfl, .inl ⟨.inl (.inl upd_same), fun l nl => ?_⟩⟩
      have x123 := x12.trans x3
      exact q l _ ys hy hs (x123.trans (Evl.Ex.new np) |> fun e => fresh_back e nl) ((x123.trans (Evl.Ex.new np)).trans (Evl.Ex.new nl)) upd_same
/-- a shortest list of units, from u to o, of so many steps -/
def ChainOk (nx : Nat → List Nat) (u o D : Nat) (ns : List Nat) : Prop := ns.length = D + 1 ∧ ns[0]? = some u ∧ ns[D]? = some o ∧ ∀ k, k < D → ∃ a b, ns[k]? = some a ∧ ns[k + 1]? = some b ∧ b ∈ nx a
def spChain : Sp := fun vs H Q _ => ∃ (v : V) (d : PyData) (u o : Nat), vs = [v, .int (u : Nat), .int (o : Nat)] ∧ Da H v d ∧ okProg d = true ∧ u < numU d ∧ o < numU d ∧
  (hasE (bfs (nxP d) u (numU d)) o = false → RetV .non H Q) ∧ ∀ (i : Nat) (q : Option Nat) (D : Nat), (bfs (nxP d) u (numU d))[i]? = some (o, q, D) → ∀ p H2 ns, ChainOk (nxP d) u o D ns → H p = none → Ex H H2 → H2 p = some (.lst (natL ns)) → Q (.ref p) H2
theorem getE_inj {E : List Ent} {i j : Nat} {e e' : Ent} (nd : (E.map (·.1)).Nodup) (h : E[i]? = some e) (h' : E[j]? = some e') (k : e.1 = e'.1) : e = e' := by
  have hi : (E.map (·.1))[i]? = some e.1 := by rw [List.getElem?_map, h]; rfl
  have hj : (E.map (·.1))[j]? = some e'.1 := by rw [List.getElem?_map, h']; rfl
  obtain ⟨li, ei⟩ := List.getElem?_eq_some_iff.mp hi
  obtain ⟨lj, ej⟩ := List.getElem?_eq_some_iff.mp hj
  have : i = j := by
    rcases Nat.lt_trichotomy i j with q | q | q
    · exact absurd (ei.trans (k.trans ej.symm)) (List.pairwise_iff_getElem.mp nd i j li lj q)
    · exact q
    · exact absurd (ei.trans (k.trans ej.symm)).symm (List.pairwise_iff_getElem.mp nd j i lj li q)
  subst this
  exact Option.some.inj (h.symm.trans h')
theorem ok_chain (T : TReach K w.params mg) : Ok P w K mg base CX0 8 "chain" ["program", "unit", "other"] spChain := by
  have G_need_program : Ok P w K mg base CX0 7 "need_program" ["program"] spNeedP := ok_need_program T
  have G_need_unit : Ok P w K mg base CX0 4 "need_unit" ["program", "unit"] spNeedU := ok_need_unit T
  have G__befores : Ok P w K mg base CX0 3 "_befores" ["program", "unit"] spBef := ok_bef T
  refine T.d_chain.ok sc_chain bi_chain (fun vs H Q E h => ?_) (fun cdv A outer s H f vs Q E hr h => ?_)
  · obtain ⟨v, d, u, o, rfl, _⟩ := h
    rfl
  · obtain ⟨v, d, u, o, rfl, hd, ok, hu, ho, q1, q2⟩ := h
    refine ⟨_, (pss_cons (ps_expr (pe_callO G_need_program (hr.mono (by decide)) (pa_cons (pv 0) pa_nil)))
    (pss_cons (ps_expr (pe_callO G_need_unit (hr.mono (by decide)) (pa_cons (pv 0) (pa_cons (pv 1) pa_nil))))
    (pss_cons (ps_expr (pe_callO G_need_unit (hr.mono (by decide)) (pa_cons (pv 0) (pa_cons (pv 2) pa_nil))))
    (pss_cons (ps_set (i := 3) sc_chain.nd rfl (Or.inl rfl) (pe_callO G__befores (hr.mono (by decide)) (pa_cons (pv 0) (pa_cons (pv 1) pa_nil))))
    (pss_cons (ps_if (pt_cmp (pc_dnotin (hu_of hr) (pv 2) (pv 3))) (pss_one (ps_ret pe_non)) pss_nil)
    (pss_cons (ps_set (i := 4) sc_chain.nd rfl (Or.inl rfl) (pe_lst (pa_cons (pv 2) pa_nil)))
    (pss_cons (ps_while PassesOwn.never (pt_cmpR op_ne (pe_ix ix_list (pv 4) (pe_un un_neg pe_int) (fun _ _ => rfl)) (pv 1) (nomark _)) (pss_one (ps_expr (pe_bm PySem.F.plainAttrs_list PySem.F.slot_list_append PySem.F.type_list_append mt_append (pv 4) (pa_cons (pe_dget (hu_of hr) (pv 3) (pe_ix ix_list (pv 4) (pe_un un_neg pe_int) (fun _ _ => rfl)) (fun _ _ => rfl)) pa_nil)))))
    (pss_one (ps_ret (pe_revL (pv 4))))))))))), ?_⟩
    have g := bfs_good ok hu
    have n6 := numU_le ok
    refine ⟨_, rfl, v, d, rfl, hd, ok, fun H1 x1 => ?_⟩
    refine ⟨_, rfl, _, rfl, v, d, u, rfl, hd.ex x1, ok, hu, fun H2 x2 => ?_⟩
    have x12 := x1.trans x2
    refine ⟨_, rfl, _, rfl, v, d, o, rfl, hd.ex x12, ok, ho, fun H3 x3 => ?_⟩
    have x123 := x12.trans x3
    refine ⟨_, rfl, _, rfl, v, d, u, rfl, hd.ex x123, ok, hu, fun b H4 nb x4 hb => ?_⟩
    have x14 := x123.trans x4
    generalize hE : bfs (nxP d) u (numU d) = E at *
    refine ⟨_, rfl, _, rfl, b, _, rfl, .inl ⟨_, .inl (o : Int), .inl hb, rfl, rfl⟩, _, rfl, ?_⟩
    rw [kvsG_has]
    cases c : hasE E o with
    | false => exact ite2 (fun _ => q1 c _ x14) (fun z => absurd rfl z)
    | true =>
      refine ite2 (fun z => by cases z) (fun _ => ?_)
      obtain ⟨i, ⟨o', q', D⟩, hi, rfl⟩ := hasE_iff.mp c
      have q2 := q2 i q' D hi
      -- backwards = [other]
      refine ⟨_, rfl, sz_of (by show 1 ≤ 100000; decide), fun l nl => ?_⟩
      have nl0 : H l = none := fresh_back x14 nl
      have hb5 := Evl.Ex.new nl (o := .lst [.int (o' : Int)]) _ _ hb
      have hl5 : (upd H4 l (.lst [.int (o' : Int)])) l = some (.lst (natL [] ++ [.int (o' : Int)])) := upd_same
      have x15 := x14.trans (Evl.Ex.new nl (o := .lst [.int (o' : Int)]))
      have bl : b ≠ l := ne_of_none hb nl
      dsimp only at hb5 hl5 x15 ⊢
      generalize upd H4 l (.lst [.int (o' : Int)]) = H5 at hb5 hl5 x15 ⊢
      refine Evl.q_while (fun m σ H' => ∃ (rs : List Nat) (c j : Nat) (q : Option Nat), σ = [some v, some (.int (u : Int)), some (.int (o' : Int)), some (.ref b), some (.ref l)] ∧ Ex H H' ∧ H' b = some (.dK (kvsG gP E)) ∧ H' l = some (.lst (natL rs ++ [.int (c : Int)])) ∧ E[j]? = some (c, q, m) ∧
        rs.length + m = D ∧ (rs ++ [c])[0]? = some o' ∧ ∀ k, k < rs.length → ∃ a b, (rs ++ [c])[k]? = some a ∧ (rs ++ [c])[k + 1]? = some b ∧ a ∈ nxP d b) D ⟨[], o', i, q', rfl, x15, hb5, hl5, hi, by simp, rfl, fun k hk => absurd hk (Nat.not_lt_zero _)⟩ ?_
      rintro m σ' H' ⟨rs, c, j, q, rfl, x6, hb6, hl6, hj, hrm, h0, hs⟩
      refine ⟨!decide (V.int (c : Int) = V.int (u : Int)), ?_, fun hc H7 x7 => ?_, fun hc H7 x7 => ?_⟩
      · intro H7 e Q' q'
        exact ⟨_, rfl, 1, rfl, l, _, _, _, rfl, rfl, .inl (.inl (e _ _ hl6)), atI_last _ _, _, rfl, rfl, _, rfl, q' H7 (Evl.Ex.refl _)⟩
      · have cu : c ≠ u := fun z => by rw [z] at hc; simp at hc
        have jp : 0 < j := Nat.pos_of_ne_zero fun z => cu (by
          rw [z, g.hd] at hj
          exact (congrArg (·.1) (Option.some.inj hj)).symm)
        obtain ⟨j', w', qq, dp, _, hj', e2, hin⟩ := g.pr j _ hj jp
        have e21 : q = some w' := congrArg (·.1) e2
        have e22 : m = dp + 1 := congrArg (·.2) e2
        subst e21
        refine ⟨fun σ2 H2 => ∃ m', m' < m ∧ ∃ (rs : List Nat) (c j : Nat) (q : Option Nat), σ2 = [some v, some (.int (u : Int)), some (.int (o' : Int)), some (.ref b), some (.ref l)] ∧ Ex H H2 ∧ H2 b = some (.dK (kvsG gP E)) ∧ H2 l = some (.lst (natL rs ++ [.int (c : Int)])) ∧ E[j]? = some (c, q, m') ∧
          rs.length + m' = D ∧ (rs ++ [c])[0]? = some o' ∧ ∀ k, k < rs.length → ∃ a b, (rs ++ [c])[k]? = some a ∧ (rs ++ [c])[k + 1]? = some b ∧ a ∈ nxP d b, fun _ _ h => h, ?_⟩
        have hl7 := x7 _ _ hl6
        have hb7 := x7 _ _ hb6
        refine ⟨_, rfl, Or.inl ⟨rfl, _, .inl (.inl hl7)⟩, _, rfl, _, rfl, 1, rfl, l, _, _, _, rfl, rfl, .inl (.inl hl7), atI_last _ _, b, .int (w' : Int), rfl, .inl ⟨_, .inl (c : Int), .inl hb7, rfl, (kvsG_at (g := gP) g.nd hj).symm⟩, ?_⟩
        have rl : rs.length ≤ 6 := by
          have := g.len
          have := (List.getElem?_eq_some_iff.mp hi).1
          have dl : D ≤ i := g.deep i _ hi
          omega
        refine ⟨l, _, _, rfl, rfl, hl7, sz_lt (by unfold natL; rw [List.length_append, List.length_map]; show rs.length + 1 < _; omega), dp, by omega, rs ++ [c], w', j', qq, rfl, Evl.Ex.mut (x6.trans x7) nl0, ?_, ?_, hj', ?_, ?_, fun k hk => ?_⟩
        · rw [upd_ne bl]
          exact hb7
        · rw [upd_same]
          unfold natL
          rw [List.map_append]
          rfl
        · rw [List.length_append]
          show rs.length + 1 + dp = D
          omega
        · exact at_app h0
        · rw [List.length_append] at hk
          have hk : k < rs.length + 1 := hk
          by_cases z : k < rs.length
          · obtain ⟨a, b, h1, h2, h3⟩ := hs k z
            exact ⟨a, b, at_app h1, at_app h2, h3⟩
          · have : k = rs.length := by omega
            subst this
            refine ⟨c, w', at_app (by rw [List.getElem?_append_right (Nat.le_refl _), Nat.sub_self]; rfl), ?_, hin⟩
            rw [List.getElem?_append_right (by rw [List.length_append]; exact Nat.le_refl _), List.length_append]
            show ([w'])[rs.length + 1 - (rs.length + 1)]? = _
            rw [Nat.sub_self]
            rfl
      · -- the end
        have cu : c = u := by
          have : decide (V.int (c : Int) = V.int (u : Int)) = true := by simpa using hc
          have := V.int.inj (of_decide_eq_true this)
          omega
        subst cu
        have ee := getE_inj g.nd hj g.hd rfl
        have m0 : m = 0 := congrArg (·.2.2) ee
        subst m0
        have rD : rs.length = D := by omega
        have hl7 := x7 _ _ hl6
        refine ⟨_, rfl, l, _, rfl, .inl (.inl hl7), fun p np => q2 p _ (rs ++ [c]).reverse ?_ (fresh_back (x6.trans x7) np) ((x6.trans x7).trans (Evl.Ex.new np)) ?_⟩
        · have rl : (rs ++ [c]).length = D + 1 := by rw [List.length_append, rD]; rfl
          refine ⟨by rw [List.length_reverse, rl], ?_, ?_, fun k hk => ?_⟩
          · rw [List.reverse_append]
            rfl
          · rw [List.getElem?_reverse (by omega), rl, show D + 1 - 1 - D = 0 by omega]
            exact h0
          · obtain ⟨a, b, h1, h2, h3⟩ := hs (D - 1 - k) (by omega)
            refine ⟨b, a, ?_, ?_, h3⟩
            · rw [List.getElem?_reverse (by omega), rl, show D + 1 - 1 - k = D - 1 - k + 1 by omega]
              exact h2
            · rw [List.getElem?_reverse (by omega), rl, show D + 1 - 1 - (k + 1) = D - 1 - k by omega]
              exact h1
        · rw [upd_same]
          unfold natL
          rw [List.map_reverse, List.map_append]
          rfl
/-! #### loops -/
def rLenK (K : PySem.W.Frag) : List V → Hp → VK → Prop := fun xs H Q => ∃ p ys, xs = [.ref p] ∧ (SqL K H p ys ∨ SqT K H p ys) ∧ Q (.int ys.length) H
def rTupOf (K : PySem.W.Frag) : List V → Hp → VK → Prop := fun xs H Q => ∃ p ys, xs = [.ref p] ∧ ((SqL K H p ys ∧ ∀ l, H l = none → Q (.ref l) (upd H l (.tup ys))) ∨ (SqT K H p ys ∧ Q (.ref p) H))
theorem ret_tupL {te : TE} {D : Ends} {σ : L2.St} {H : Hp} {xs : List V} (h : EvL te σ H xs) (k : ∀ p H2, H p = none → Ex H H2 → H2 p = some (.tup xs) → D.rt (.ref p) H2) : tRet (tCB (rTupOf K) (tCons te tNil)) D σ H :=
  h H (Evl.Ex.refl _) _ fun p H1 np x1 hp => ⟨p, xs, rfl, .inl ⟨.inl (.inl hp), fun l nl => k l _ (fresh_back x1 nl) (x1.trans (Evl.Ex.new nl)) upd_same⟩⟩
def inLoop (F : Nat → List Ent) (u : Nat) : Bool := (F u).any fun e => !decide (V.int (e.1 : Int) = V.int (u : Int)) && hasE (F e.1) u
/-- a list of dicts of searches -/
def DictsAt (H : Hp) (ra : Addr) (n : Nat) (F : Nat → List Ent) : Prop := ∃ ds : List Addr, H ra = some (.lst (ds.map V.ref)) ∧ ds.length = n ∧ ∀ i a, ds[i]? = some a → H a = some (.dK (kvsG gP (F i)))
theorem DictsAt.ex {H H' : Hp} {ra : Addr} {n : Nat} {F : Nat → List Ent} (h : DictsAt H ra n F) (e : Ex H H') : DictsAt H' ra n F := by
  obtain ⟨ds, g1, g2, g3⟩ := h
  exact ⟨ds, e _ _ g1, g2, fun i b hb => e _ _ (g3 i b hb)⟩
def spLoop : Sp := fun vs H Q _ => ∃ (u n : Nat) (ra : Addr) (F : Nat → List Ent), vs = [.int (u : Nat), .ref ra] ∧ DictsAt H ra n F ∧ u < n ∧ (F u).length ≤ 100 ∧ (∀ e ∈ F u, e.1 < n) ∧ Ret (.bl (inLoop F u)) H Q
theorem any_range {α : Type} {l : List α} {d : α} {f : α → Bool} : ((List.range l.length).map fun i => f (l.getD i d)).any id = l.any f := by
  induction l with
  | nil => rfl
  | cons x r ih =>
    rw [List.length_cons, List.range_succ_eq_map, List.map_cons, List.any_cons, List.any_cons, List.map_map, ← ih]
    rfl
theorem ok_loop (T : TReach K w.params mg) : Ok P w K mg base CX0 1 "_is_in_loop" ["unit", "reached"] spLoop := by
  refine T.d_inloop.ok sc__is_in_loop bi__is_in_loop (fun vs H Q E h => ?_) (fun cdv A outer s H f vs Q E hr h => ?_)
  · obtain ⟨u, n, ra, F, rfl, _⟩ := h
    rfl
  · obtain ⟨u, n, ra, F, rfl, ⟨ds, hra, hdl, hds⟩, hu, hF, hFn, q⟩ := h
    refine ⟨_, (pss_one (ps_ret (pe_callB (cr_any rfl) (by rfl) T.b_any (by decide +kernel) (pa_cons (pe_lock (pe_lc (own := [("other", 2)]) rfl sc__is_in_loop.nd (pi_keys (pe_ix ix_list (pv 1) (pv 0) (fun _ _ => rfl))) (blkOk_by (N := N__is_in_loop) (sc := defScope s__is_in_loop) (by decide +kernel)) (fun _ _ _ _ _ => (pg_name (i := 2) sc__is_in_loop.nd rfl (Or.inl rfl))) (fun _ _ _ _ _ => pts_nil) (fun _ _ _ _ _ => (pe_and (pe_cmpR op_ne (pv 2) (pv 0) (nomark _)) (pe_one (pe_cmp (pc_din (hu_of hr) (pv 0) (pe_ix (ix_listK (K := K) rfl) (pv 1) (pv 2) (fun _ _ => rfl))))))))) pa_nil)))), ?_⟩
    obtain ⟨a, ha⟩ : ∃ a, ds[u]? = some a := ⟨_, List.getElem?_eq_getElem (by omega)⟩
    have hda := hds u a ha
    have ra_a : ra ≠ a := fun z => by
      rw [z, hda] at hra
      cases hra
    have atl : ∀ {i : Nat} {a : Addr}, ds[i]? = some a → (ds.map V.ref)[i]? = some (.ref a) := fun h => by rw [List.getElem?_map, h]; rfl
    refine ⟨a, _, hda, trivial, fun od => ?_⟩
    have xF : ∀ {b o}, H b = some o → b ≠ a → (upd H a (.frz od (.dK (kvsG gP (F u))))) b = some o := fun h n => by rw [upd_ne n]; exact h
    refine ⟨_, rfl, _, rfl, ra, _, (u : Int), _, rfl, rfl, .inl (.inl (xF hra ra_a)), atI_nat (atl ha), a, od, rfl, .inl ⟨_, upd_same, fun Dl hD => ?_⟩⟩
    generalize hHF : upd H a (.frz od (.dK (kvsG gP (F u)))) = HF at hD xF ⊢
    have hfa : HF a = some (.frz od (.dK (kvsG gP (F u)))) := by rw [← hHF]; exact upd_same
    refine lc_it walk_keys (fun i H' => Mk HF (fun i => V.bl (!decide (V.int (((F u).getD i (0, none, 0)).1 : Int) = V.int (u : Int)) && hasE (F ((F u).getD i (0, none, 0)).1) u)) Dl i H') ⟨hD, Evl.Ex.new hD, upd_same⟩ (fun i H' _ p => p.2.1 _ _ hfa) ?_ ?_
    · rintro i x H' H'' hi p ⟨rfl, k, vv, hk, rfl⟩
      unfold kvsG at hk hi
      rw [List.length_map] at hi
      rw [List.getElem?_map] at hk
      obtain ⟨e, he, hk⟩ := Option.map_eq_some_iff.mp hk
      cases hk
      refine ⟨rfl, ?_⟩
      have hg : (F u).getD i (0, none, 0) = e := getD_at he
      dsimp only [tYes]
      rw [if_pos rfl]
      refine mk_turn p (by omega) ?_
      intro H4 e4 Q' q'
      rw [hg] at q'
      refine ⟨_, rfl, _, rfl, rfl, _, rfl, ?_⟩
      cases c : decide (V.int (e.1 : Int) = V.int (u : Int)) with
      | true =>
        rw [c] at q'
        exact ite2 (fun z => absurd (show (!decide (V.int (e.1 : Int) = V.int (u : Int))) = true from z) (by rw [c]; exact Bool.false_ne_true)) (fun _ => q' H4 (Evl.Ex.refl _))
      | false =>
        rw [c] at q'
        refine ite2 (fun _ => ?_) (fun z => absurd (show (!decide (V.int (e.1 : Int) = V.int (u : Int))) = true by rw [c]; rfl) z)
        have en := hFn e (List.mem_of_getElem? he)
        obtain ⟨a', ha'⟩ : ∃ a', ds[e.1]? = some a' := ⟨_, List.getElem?_eq_getElem (by omega)⟩
        have hda' := hds _ a' ha'
        have hra4 : H4 ra = some (.lst (ds.map V.ref)) := e4 _ _ (p.2.1 _ _ (xF hra ra_a))
        have rd : Rd H4 a' (.dK (kvsG gP (F e.1))) := by
          by_cases z : a' = a
          · subst z
            rw [hda] at hda'
            have : kvsG gP (F u) = kvsG gP (F e.1) := HO.dK.inj (Option.some.inj hda')
            rw [← this]
            exact .inr ⟨od, e4 _ _ (p.2.1 _ _ hfa)⟩
          · exact .inl (e4 _ _ (p.2.1 _ _ (xF hda' z)))
        refine ⟨_, rfl, _, rfl, _, rfl, ra, _, (e.1 : Int), _, rfl, rfl, .inl (.inl hra4), atI_nat (atl ha'), a', _, rfl, .inl ⟨_, .inl (u : Int), rd, rfl, rfl⟩, ?_⟩
        rw [kvsG_has]
        exact q' H4 (Evl.Ex.refl _)
    · rintro H' ⟨p1, p2, p3⟩
      have hfa' := p2 _ _ hfa
      have Da : Dl ≠ a := fun z => by
        rw [z, hfa] at hD
        cases hD
      have nD : H Dl = none := by
        rw [← hHF, upd_ne Da] at hD
        exact hD
      have kl : (kvsG gP (F u)).length = (F u).length := by unfold kvsG; rw [List.length_map]
      rw [bl_map] at p3
      refine ⟨hfa', Dl, _, rfl, .inl (.inl (by rw [upd_ne Da]; exact p3)), ?_⟩
      rw [kl, any_range (l := F u) (f := fun e => !decide (V.int (e.1 : Int) = V.int (u : Int)) && hasE (F e.1) u)]
      refine q _ fun b o hb => ?_
      by_cases z : b = a
      · subst z
        rw [upd_same, ← hda]
        exact hb
      · rw [upd_ne z]
        exact p2 _ _ (xF hb z)
/-- what is no list stays -/
def ExD (H H' : Hp) : Prop := ∀ a kvs, H a = some (.dK kvs) → H' a = some (.dK kvs)
theorem lcQ {te : TE} {σ : L2.St} {vs : List Nat} {j : Nat} {Q : VK} {n : Nat} {H1 : Hp} (Good : Hp → Nat → V → Prop) (hG : ∀ H H' k v, ExD H H' → Good H k v → Good H' k v) (hn : n ≤ 1000) (hw : ∀ x, wipe ((wipe σ vs).set j (some x)) vs = wipe σ vs)
    (he : ∀ (k : Nat) H2, k < n → Ex H1 H2 → ∀ Q' : VK, (∀ y H3, Ex H2 H3 → Good H3 k y → Q' y H3) → te ((wipe σ vs).set j (some (.int (k : Nat)))) H2 Q')
    (hd : ∀ D H2 ys, Ex H1 H2 → H1 D = none → H2 D = some (.lst ys) → ys.length = n → (∀ k y, ys[k]? = some y → Good H2 k y) → Q (.ref D) H2) : LcRest te σ vs j Q n H1 := by
  intro D hD
  refine lc_it (walk_range (lo := 0) (n := n)) (fun i H' => Ex H1 H' ∧ ∃ ys, H' D = some (.lst ys) ∧ ys.length = i ∧ ∀ k y, ys[k]? = some y → Good H' k y) ⟨Evl.Ex.new hD, [], upd_same, rfl, fun k y hy => by cases hy⟩ (fun _ _ _ _ => trivial) ?_ ?_
  · rintro i x H' H'' hi ⟨c1, ys, h1, h2, h3⟩ ⟨rfl, rfl⟩
    refine ⟨hw _, ?_⟩
    show te ((wipe σ vs).set j (some (.int (0 + (i : Int))))) _ _
    rw [show (0 : Int) + (i : Int) = (i : Int) from Int.zero_add _]
    refine he i _ hi c1 _ fun y H3 c2 g => ?_
    have hD3 := c2 _ _ h1
    have eT : ExD H3 (upd H3 D (.lst (ys ++ [y]))) := fun a kvs e => by
      have : a ≠ D := fun z => by
        rw [z, hD3] at e
        cases e
      rw [upd_ne this]
      exact e
    refine ⟨ys, hD3, sz_lt (by omega), Evl.Ex.mut (c1.trans c2) hD, ys ++ [y], upd_same, by rw [List.length_append, h2]; rfl, ?_⟩
    intro k z hz
    rcases Nat.lt_trichotomy k ys.length with q | q | q
    · rw [List.getElem?_append_left q] at hz
      exact hG _ _ _ _ (fun a kvs e => eT a kvs (c2 _ _ e)) (h3 k z hz)
    · subst q
      rw [List.getElem?_append_right (Nat.le_refl _), Nat.sub_self] at hz
      cases hz
      rw [h2]
      exact hG _ _ _ _ eT g
    · rw [List.getElem?_append_right (by omega), show k - ys.length = (k - ys.length - 1) + 1 by omega] at hz
      cases hz
  · rintro H' ⟨c1, ys, h1, h2, h3⟩
    exact hd D H' ys c1 hD h1 h2 h3
theorem refs_of : ∀ {ys : List V}, (∀ (k : Nat) y, ys[k]? = some y → ∃ a, y = V.ref a) → ∃ ds : List Addr, ys = ds.map V.ref
  | [], _ => ⟨[], rfl⟩
  | y :: r, h => by
    obtain ⟨ds, rfl⟩ := refs_of (ys := r) fun k z hz => h (k + 1) z hz
    obtain ⟨a, rfl⟩ := h 0 y rfl
    exact ⟨a :: ds, rfl⟩
def loopL (d : PyData) : List Nat := (List.range (numU d)).filter fun u => inLoop (fun u => bfs (nxP d) u (numU d)) u
def spLoops : Sp := fun vs H Q _ => ∃ (v : V) (d : PyData), vs = [v] ∧ Da H v d ∧ okProg d = true ∧ ∀ p H2, H p = none → Ex H H2 → H2 p = some (.tup (natL (loopL d))) → Q (.ref p) H2
theorem ok_loops (T : TReach K w.params mg) : Ok P w K mg base CX0 8 "loops" ["program"] spLoops := by
  have G_need_program : Ok P w K mg base CX0 7 "need_program" ["program"] spNeedP := ok_need_program T
  have G__befores : Ok P w K mg base CX0 3 "_befores" ["program", "unit"] spBef := ok_bef T
  have G__is_in_loop : Ok P w K mg base CX0 1 "_is_in_loop" ["unit", "reached"] spLoop := ok_loop T
  refine T.d_loops.ok sc_loops bi_loops (fun vs H Q E h => ?_) (fun cdv A outer s H f vs Q E hr h => ?_)
  · obtain ⟨v, d, rfl, _⟩ := h
    rfl
  · obtain ⟨v, d, rfl, hd, ok, q⟩ := h
    refine ⟨_, (pss_cons (ps_expr (pe_callO G_need_program (hr.mono (by decide)) (pa_cons (pv 0) pa_nil)))
    (pss_cons (ps_set (i := 1) sc_loops.nd rfl (Or.inr rfl) (pe_lc (own := [("unit", 2)]) rfl sc_loops.nd (pi_range1 (by rfl) T.b_range (pa_cons (pe_callB call_len_seq (by rfl) T.b_len (by decide +kernel) (pa_cons (pe_ix ix_tup (pv 0) pe_int (fun _ _ => rfl)) pa_nil)) pa_nil)) (blkOk_by (N := N_loops) (sc := defScope s_loops) (by decide +kernel)) (fun _ _ _ _ _ => (pg_name (i := 2) sc_loops.nd rfl (Or.inl rfl))) (fun _ _ _ _ _ => pts_nil) (fun _ _ _ _ _ => (pe_callO G__befores (hr.mono (by decide)) (pa_cons (pv 0) (pa_cons (pv 2) pa_nil))))))
    (pss_one (ps_ret (pe_callTy call_tuple_of (by rfl) T.b_tuple (by decide +kernel) (pa_cons (pe_lc (own := [("unit", 2)]) rfl sc_loops.nd (pi_range1 (by rfl) T.b_range (pa_cons (pe_callB call_len_seq (by rfl) T.b_len (by decide +kernel) (pa_cons (pv 1) pa_nil)) pa_nil)) (blkOk_by (N := N_loops) (sc := defScope s_loops) (by decide +kernel)) (fun _ _ _ _ _ => (pg_name (i := 2) sc_loops.nd rfl (Or.inl rfl))) (fun _ _ _ _ _ => (pts_one (pt_val (pe_callO G__is_in_loop (hr.mono (by decide)) (pa_cons (pv 2) (pa_cons (pv 1) pa_nil)))))) (fun _ _ _ _ _ => (pv 2))) pa_nil)))))), ?_⟩
    have n6 := numU_le ok
    obtain ⟨us, fns, rfl, _, _, _⟩ := prog_view ok
    obtain ⟨a, xs, rfl, ha, hds⟩ := Da.tupl hd
    cases hds with
    | @cons v1 r1 _ _ g1 hds =>
    obtain ⟨a1, xs1, rfl, ha1, hds1⟩ := Da.tupl g1
    have hl : xs1.length = numU (.tuple [.tuple us, .tuple fns]) := hds1.len
    generalize hdd : PyData.tuple [.tuple us, .tuple fns] = d at *
    have gd := fun {u} hu => bfs_good (u := u) ok hu
    refine Evl.q_drop (v := .non) (fun H1 e Q' q' => ⟨_, rfl, _, d, rfl, hd.ex e, ok, q'⟩) fun H1 x1 => ?_
    refine asgLc ?_
    refine ⟨_, rfl, a, _, 0, _, rfl, rfl, st_of (x1 _ _ ha), atI_nat (j := 0) rfl, a1, xs1, rfl, .inr (st_of (x1 _ _ ha1)), (xs1.length : Int), rfl, by omega, by omega, ?_⟩
    rw [show ((xs1.length : Int)).toNat = numU d by omega]
    refine lcQ (n := numU d) (fun H k v => ∃ b, v = .ref b ∧ H b = some (.dK (kvsG gP (bfs (nxP d) k (numU d))))) (fun H H' k v e ⟨b, h1, h2⟩ => ⟨b, h1, e _ _ h2⟩) (by omega) ?_ (fun k H2 hk x2 Q' q' => ?_) (fun D H2 ys x2 nD hD hlen hys => ?_)
    · exact fun _ => rfl
    · exact ⟨_, rfl, _, rfl, _, d, k, rfl, (hd.ex x1).ex x2, ok, hk, fun p H3 np x3 hp => q' _ H3 x3 ⟨p, rfl, hp⟩⟩
    · obtain ⟨ds, rfl⟩ := refs_of fun k y hy => by
        obtain ⟨b, h1, _⟩ := hys k y hy
        exact ⟨b, h1⟩
      rw [List.length_map] at hlen
      have hDA : DictsAt H2 D (numU d) fun u => bfs (nxP d) u (numU d) := ⟨ds, hD, hlen, fun i b hb => by
        obtain ⟨b', h1, h2⟩ := hys i (.ref b) (by rw [List.getElem?_map, hb]; rfl)
        cases h1
        exact h2⟩
      have el := Evl.el_lcR1 (te := tVar 2) (t := tB (tCall spLoop [] E0 (tCons (tVar 2) (tCons (tVar 1) tNil)))) (σ := [some (.ref a), some (.ref D), none]) (H := H2) (ta := tCons (tCB (rLenK K) (tCons (tVar 1) tNil)) tNil) (j := 2) (vs := [2]) (n := (numU d : Nat)) (fun u => inLoop (fun u => bfs (nxP d) u (numU d)) u) (fun i => .int (i : Nat))
        (ea_cons (fun H3 e Q' q' => ⟨_, rfl, D, _, rfl, .inl (.inl (.inl (e _ _ hD))), by rw [List.length_map, hlen]; exact q' H3 (Evl.Ex.refl _)⟩) ea_nil) ⟨by omega, by omega⟩ (fun _ => rfl) (fun i H3 x3 hi => et_B (sv_ret (fun H4 e Q' q' => ⟨i, numU d, D, fun u => bfs (nxP d) u (numU d), rfl, hDA.ex (x3.trans e), by omega, by have := (gd (u := i) (by omega)).len; show (bfs (nxP d) i (numU d)).length ≤ 100; omega, (gd (u := i) (by omega)).lt, q'⟩) (ea_cons (ev_var rfl) (ea_cons (ev_var rfl) ea_nil)))) (fun i H3 x3 hi _ => ev_var rfl)
      refine ret_tupL el fun p H3 np x3 hp => ?_
      rw [show ((numU d : Nat) : Int).toNat = numU d by omega] at hp
      have xx := x1.trans x2
      exact q p H3 (fresh_back xx np) (xx.trans x3) hp
end
end FW
set_option Elab.async false
set_option linter.all false
set_option maxRecDepth 100000
set_option maxHeartbeats 4000000
namespace FW
open PySem PySem.Spec PyProof.Rows L2
open Evl (pss_cut tCut)
open Evl (Ex Ev EvT EvA EvL EvU RC RV fresh_back ev_var ev_c ea_nil ea_cons ev_cb ev_op ev_is ev_andV ev_orV ev_notV et_test et_B et_and et_or et_not et_is s_ret s_when q_when q_asg q_asgL q_asgU rv_I0 rv_eq rv_ne rv_ixT rv_ixL RetL RetV)
structure TLaw (K : PySem.W.Frag) (P : Params) (mg : Str → Option Value) : Prop extends TReach K P mg, TDraw K mg where
  b_repr : mg "repr" = none
  d_next : Df K mg "_law_w_next" s__law_w_next
  d_steps : Df K mg "_law_w_steps" s__law_w_steps
  d_right : Df K mg "_law_w_chain_right" s__law_w_chain_right
  d_law : Df K mg "law" s_law
section
variable {P : Program} {w : World} {K : PySem.W.Frag} {mg : Str → Option Value} {base : Heap}
def rNotN : R2 := fun x y H Q => y = V.non ∧ Q (V.bl !decide (x = V.non)) H
theorem ok_next (T : TLaw K w.params mg) : Ok P w K mg base CX0 1 "_law_w_next" ["program", "unit"] spAcc := by
  refine T.d_next.ok sc__law_w_next bi__law_w_next (fun vs H Q E h => ?_) (fun cdv A outer s H f vs Q E hr h => ?_)
  · obtain ⟨v, d, u, rfl, _⟩ := h
    rfl
  · obtain ⟨v, d, u, rfl, hd, ok, hu, q⟩ := h
    refine ⟨_, (pss_cons (ps_asg (pe_ix ix_tup (pe_ix ix_tup (pv 0) pe_int (fun _ _ => rfl)) (pv 1) (fun _ _ => rfl)) (pg_tup rfl (pgs_cons (pg_name (i := 2) sc__law_w_next.nd rfl (Or.inl rfl)) (pgs_cons (pg_name (i := 3) sc__law_w_next.nd rfl (Or.inl rfl)) (pgs_cons (pg_name (i := 4) sc__law_w_next.nd rfl (Or.inl rfl)) pgs_nil)))))
    (pss_cons (ps_set (i := 5) sc__law_w_next.nd rfl (Or.inl rfl) (pe_ifExp (pt_cmpR op_notN (pv 2) pe_non (nomark _)) (pe_lst (pa_cons (pv 2) pa_nil)) (pe_lst pa_nil)))
    (pss_cons (ps_for PassesOwn.never rfl (pi_tup (pv 4)) (pg_name (i := 6) sc__law_w_next.nd rfl (Or.inl rfl)) (pss_cons (ps_if (pt_cmpR op_eq (pe_ix ix_tup (pv 6) pe_int (fun _ _ => rfl)) pe_str (nomark _)) (pss_one (ps_ret (pv 5))) pss_nil)
    (pss_one (ps_if (pt_cmpR op_in_seq (pe_ix ix_tup (pv 6) pe_int (fun _ _ => rfl)) (pe_tup (pa_cons pe_str (pa_cons pe_str pa_nil))) (by rfl)) (pss_one (ps_expr (pe_bm PySem.F.plainAttrs_list PySem.F.slot_list_append PySem.F.type_list_append mt_append (pv 5) (pa_cons (pe_ifExp (pt_cmpR op_eq (pe_ix ix_tup (pv 6) pe_int (fun _ _ => rfl)) pe_str (nomark _)) (pe_ix ix_tup (pv 6) pe_int (fun _ _ => rfl)) (pe_ix ix_tup (pv 6) pe_int (fun _ _ => rfl))) pa_nil)))) pss_nil))))
    (pss_one (ps_ret (pv 5)))))), ?_⟩
    obtain ⟨us, fns, rfl, _, u6, hv⟩ := prog_view ok
    have hu' : u < us.length := hu
    obtain ⟨du, hdu⟩ : ∃ du, us[u]? = some du := ⟨_, List.getElem?_eq_getElem hu'⟩
    obtain ⟨dp, db, fz, is, rfl, rfl, hp, hil, hi⟩ := hv u du hdu
    obtain ⟨a, xs, rfl, ha, hds⟩ := Da.tupl hd
    cases hds with
    | @cons v1 r1 _ _ g1 hds =>
    obtain ⟨a1, xs1, rfl, ha1, hds1⟩ := Da.tupl g1
    obtain ⟨vu, hvu, gu⟩ := hds1.of hdu
    obtain ⟨a2, xs2, rfl, ha2, hds2⟩ := Da.tupl gu
    cases hds2 with
    | @cons w1 r1 _ _ e1 hds2 =>
    cases hds2 with
    | @cons w2 r2 _ _ e2 hds2 =>
    cases hds2 with
    | @cons w3 r3 _ _ e3 hds2 =>
    cases hds2
    obtain ⟨a3, xs3, rfl, ha3, hds3⟩ := Da.tupl e3
    have eL : natL (nxP (.tuple [.tuple us, .tuple fns]) u) = (parD dp ++ nxI is).map V.int := by
      have := nxU_ints (hv u _ hdu) hu'
      unfold natL nxP
      rw [show (unitsD (.tuple [.tuple us, .tuple fns])).getD u .none = .tuple [dp, .int fz, .tuple is] from getD_at hdu]
      exact this.symm
    rw [eL] at q
    refine ⟨_, rfl, a, _, 0, _, rfl, rfl, st_of ha, atI_nat (j := 0) rfl, _, rfl, a1, xs1, (u : Nat), _, rfl, rfl, st_of ha1, atI_nat hvu, a2, _, rfl, st_of ha2, rfl, _, _, rfl, _, _, rfl, _, _, rfl, rfl, ?_⟩
    have evp : EvL (tIf (tTest (tOp rNotN (tVar 2) (tC .non))) (tLst (tCons (tVar 2) tNil)) (tLst tNil)) [some (.ref a), some (.int (u : Nat)), some w1, some w2, some (.ref a3), none, none] H ((parD dp).map V.int) := by
      intro H1 e Q' q'
      rcases hp with rfl | ⟨i, rfl, _⟩
      · cases e1
        exact ⟨_, rfl, rfl, _, rfl, ite2 (fun c => absurd c (by simp)) (fun _ => ⟨sz_of (by show 0 ≤ 100000; decide), fun l nl => q' l _ nl (Evl.Ex.new nl) upd_same⟩)⟩
      · cases e1
        exact ⟨_, rfl, rfl, _, rfl, ite2 (fun _ => ⟨_, rfl, sz_of (by show 1 ≤ 100000; decide), fun l nl => q' l _ nl (Evl.Ex.new nl) upd_same⟩) (fun c => absurd (by simp) c)⟩
    refine q_asgL evp fun l H1 nl x1 hl => ?_
    refine Evl.q_forT (ev_var rfl) (st_of (x1 _ _ ha3)) (fun i σ H' => ∃ y6 ns, σ = [some (.ref a), some (.int (u : Nat)), some w1, some w2, some (.ref a3), some (.ref l), y6] ∧ Ex H H' ∧ H' l = some (.lst (ns.map V.int)) ∧ parD dp ++ nxI is = ns ++ nxI (is.drop i) ∧ ns.length ≤ 10 + i)
      (fun H2 x2 => ⟨none, parD dp, rfl, x1.trans x2, x2 _ _ hl, rfl, by rcases hp with rfl | ⟨i, rfl, _⟩ <;> simp [parD]⟩) (fun i σ' H' _ ⟨_, _, _, x2, _⟩ => st_of (x2 _ _ ha3)) ?_ ?_
    · rintro i x σ' H' hx ⟨y6, ns, rfl, x2, hl2, en, nl10⟩
      obtain ⟨dx, hdx, dd⟩ := hds3.at hx
      have ilt := (List.getElem?_eq_some_iff.mp hdx).1
      have vx := hi dx (List.mem_of_getElem? hdx)
      have edrop : is.drop i = dx :: is.drop (i + 1) := by
        rw [List.drop_eq_getElem_cons ilt]
        congr 1
        exact (List.getElem?_eq_some_iff.mp hdx).2
      rw [edrop] at en
      have dd2 := dd.ex x2
      have i6 : i < 6 := by omega
      cases vx with
      | other p1 p2 hw =>
        rename_i wd
        obtain ⟨t, ys, rfl, ht, hys⟩ := Da.tupl dd2
        cases hys with
        | @cons v1 r1 _ _ g1 hys =>
        cases g1
        refine ⟨_, rfl, t, _, 0, _, rfl, rfl, st_of ht, atI_nat (j := 0) rfl, rfl, _, rfl, ite2 (fun c => absurd c (by rcases hw with rfl | rfl | rfl <;> decide +kernel)) (fun _ => ?_)⟩
        refine ⟨_, rfl, t, _, 0, _, rfl, rfl, st_of ht, atI_nat (j := 0) rfl, sz_of (by show 2 ≤ 100000; decide), fun p np => ⟨p, _, rfl, .inr (st_of upd_same), rfl, rfl, _, rfl, ite2 (fun c => absurd c (by rcases hw with rfl | rfl | rfl <;> decide +kernel)) (fun _ => ?_)⟩⟩
        exact ⟨_, ns, rfl, x2.trans (Evl.Ex.new np), Evl.Ex.new np _ _ hl2, en, by omega⟩
      | fail =>
        obtain ⟨t, ys, rfl, ht, hys⟩ := Da.tupl dd2
        cases hys with
        | @cons v1 r1 _ _ g1 hys =>
        cases g1
        refine ⟨_, rfl, t, _, 0, _, rfl, rfl, st_of ht, atI_nat (j := 0) rfl, rfl, _, rfl, ite2 (fun _ => ?_) (fun c => absurd (by decide +kernel) c)⟩
        rw [show nxI (.tuple [.str "fail"] :: is.drop (i + 1)) = [] from rfl, List.append_nil] at en
        rw [en] at q
        exact ⟨_, rfl, q l H' nl x2 hl2⟩
      | read s1 o f1 _ _ =>
        obtain ⟨t, ys, rfl, ht, hys⟩ := Da.tupl dd2
        cases hys with
        | @cons v1 r1 _ _ g1 hys =>
        cases hys with
        | @cons v2 r2 _ _ g2 hys =>
        cases hys with
        | @cons v3 r3 _ _ g3 hys =>
        cases g1
        cases g3
        refine ⟨_, rfl, t, _, 0, _, rfl, rfl, st_of ht, atI_nat (j := 0) rfl, rfl, _, rfl, ite2 (fun c => absurd c (by decide +kernel)) (fun _ => ?_)⟩
        refine ⟨_, rfl, t, _, 0, _, rfl, rfl, st_of ht, atI_nat (j := 0) rfl, sz_of (by show 2 ≤ 100000; decide), fun p np => ⟨p, _, rfl, .inr (st_of upd_same), rfl, rfl, _, rfl, ite2 (fun _ => ?_) (fun c => absurd (by decide +kernel) c)⟩⟩
        have ht3 := Evl.Ex.new np (o := .tup [V.str "read", .str "write"]) _ _ ht
        have hl3 := Evl.Ex.new np (o := .tup [V.str "read", .str "write"]) _ _ hl2
        refine ⟨_, rfl, Or.inl ⟨rfl, _, .inl (.inl hl3)⟩, ?_⟩
        refine ⟨_, rfl, t, _, 0, _, rfl, rfl, st_of ht3, atI_nat (j := 0) rfl, rfl, _, rfl, ite2 (fun _ => ?_) (fun c => absurd (by decide +kernel) c)⟩
        refine ⟨_, rfl, t, _, 2, _, rfl, rfl, st_of ht3, atI_nat (j := 2) rfl, l, _, _, rfl, rfl, hl3, sz_lt (by rw [List.length_map]; omega), ?_⟩
        refine ⟨_, ns ++ [o], rfl, Evl.Ex.mut (x2.trans (Evl.Ex.new np)) nl, ?_, by rw [en, List.append_assoc]; rfl, by rw [List.length_append]; show ns.length + 1 ≤ _; omega⟩
        rw [upd_same, List.map_append]
        rfl
      | write o f1 s1 _ _ =>
        obtain ⟨t, ys, rfl, ht, hys⟩ := Da.tupl dd2
        cases hys with
        | @cons v1 r1 _ _ g1 hys =>
        cases hys with
        | @cons v2 r2 _ _ g2 hys =>
        cases g1
        cases g2
        refine ⟨_, rfl, t, _, 0, _, rfl, rfl, st_of ht, atI_nat (j := 0) rfl, rfl, _, rfl, ite2 (fun c => absurd c (by decide +kernel)) (fun _ => ?_)⟩
        refine ⟨_, rfl, t, _, 0, _, rfl, rfl, st_of ht, atI_nat (j := 0) rfl, sz_of (by show 2 ≤ 100000; decide), fun p np => ⟨p, _, rfl, .inr (st_of upd_same), rfl, rfl, _, rfl, ite2 (fun _ => ?_) (fun c => absurd (by decide +kernel) c)⟩⟩
        have ht3 := Evl.Ex.new np (o := .tup [V.str "read", .str "write"]) _ _ ht
        have hl3 := Evl.Ex.new np (o := .tup [V.str "read", .str "write"]) _ _ hl2
        refine ⟨_, rfl, Or.inl ⟨rfl, _, .inl (.inl hl3)⟩, ?_⟩
        refine ⟨_, rfl, t, _, 0, _, rfl, rfl, st_of ht3, atI_nat (j := 0) rfl, rfl, _, rfl, ite2 (fun c => absurd c (by decide +kernel)) (fun _ => ?_)⟩
        refine ⟨_, rfl, t, _, 1, _, rfl, rfl, st_of ht3, atI_nat (j := 1) rfl, l, _, _, rfl, rfl, hl3, sz_lt (by rw [List.length_map]; omega), ?_⟩
        refine ⟨_, ns ++ [o], rfl, Evl.Ex.mut (x2.trans (Evl.Ex.new np)) nl, ?_, by rw [en, List.append_assoc]; rfl, by rw [List.length_append]; show ns.length + 1 ≤ _; omega⟩
        rw [upd_same, List.map_append]
        rfl
    · rintro σ' H' ⟨y6, ns, rfl, x2, hl2, en, nl10⟩
      rw [List.drop_of_length_le (by rw [hds3.len]; exact Nat.le_refl _)] at en
      rw [en, show nxI [] = [] from rfl, List.append_nil] at q
      exact ⟨_, rfl, q l H' nl x2 hl2⟩
/-! #### the law's search, in levels -/
def spSteps : Sp := fun vs H Q _ => ∃ (v : V) (d : PyData) (u : Nat), vs = [v, .int (u : Nat)] ∧ Da H v d ∧ okProg d = true ∧ u < numU d ∧ RetD (kvsG gD (bfs (nxP d) u (numU d))) H Q
def intsD (ns : List Nat) : List PyData := ns.map fun o : Nat => PyData.int (o : Int)
theorem dp_nat {K : PySem.W.Frag} {H : Hp} : ∀ (ns : List Nat), DpAll K H (natL ns) (intsD ns)
  | [] => .nil
  | o :: r => .cons (.int _) (dp_nat r)
theorem intsD_lay : ∀ (ns : List Nat), PyData.canLayAll0 (intsD ns) = true
  | [] => rfl
  | o :: r => by
    show (true && PyData.canLayAll0 (intsD r)) = true
    rw [intsD_lay r]
    rfl
theorem intsD_deep : ∀ (ns : List Nat), PyData.depthAll (intsD ns) = 0
  | [] => rfl
  | o :: r => by
    show max 0 (PyData.depthAll (intsD r)) = 0
    rw [intsD_deep r]
    rfl
theorem intsD_shaped (ns : List Nat) : SeqAt.shaped (.list (intsD ns)) = true := by
  unfold SeqAt.shaped
  rw [Bool.and_eq_true]
  refine ⟨intsD_lay ns, decide_eq_true ?_⟩
  show PyData.depthAll (intsD ns) + 1 ≤ 64
  rw [intsD_deep]
  decide
theorem eqv_nil {ns : List Nat} : PyData.eqv (.list (intsD ns)) (.list []) = decide (ns = []) := by
  cases ns with
  | nil => rfl
  | cons o r => exact (decide_eq_false (fun z => by cases z)).symm
theorem keysE_app {E F : List Ent} : keysE (E ++ F) = keysE E ++ keysE F := by
  unfold keysE natL
  rw [List.map_append, List.map_append]
theorem add1_same {w dp o : Nat} {E : List Ent} (h : hasE E o = true) : add1 w dp E o = E := by
  unfold add1
  rw [if_pos h]
theorem ok_steps (T : TLaw K w.params mg) : Ok P w K mg base CX0 2 "_law_w_steps" ["program", "unit"] spSteps := by
  have G__law_w_next : Ok P w K mg base CX0 1 "_law_w_next" ["program", "unit"] spAcc := ok_next T
  refine T.d_steps.ok sc__law_w_steps bi__law_w_steps (fun vs H Q E h => ?_) (fun cdv A outer s H f vs Q E hr h => ?_)
  · obtain ⟨v, d, u, rfl, _⟩ := h
    rfl
  · obtain ⟨v, d, u, rfl, hd, ok, hu, q⟩ := h
    refine ⟨_, (pss_cons (ps_par3 (i := 2) (j := 3) (l := 4) (by rfl) sc__law_w_steps.nd rfl rfl rfl (by decide) (by decide) (by decide) rfl rfl rfl (pa_cons (pe_disp (pps_cons (pv 1) pe_int pps_nil) (by rfl) (by rfl) (fun z => by cases z) (by decide)) (pa_cons (pe_lst (pa_cons (pv 1) pa_nil)) (pa_cons pe_int pa_nil))) (by rfl))
    (pss_cons (ps_while PassesOwn.never (pt_cmpR (op_neD (hu64 hr)) (pv 3) (pe_lst pa_nil) (nomark _)) (pss_cons (ps_par (i := 4) (j := 5) (by rfl) sc__law_w_steps.nd rfl rfl (by decide) rfl rfl (pa_cons (pe_op op_add (pv 4) pe_int) (pa_cons (pe_lst pa_nil) pa_nil)) (by rfl))
    (pss_cons (ps_for PassesOwn.never rfl (pi_list (pv 3)) (pg_name (i := 6) sc__law_w_steps.nd rfl (Or.inl rfl)) (pss_one (ps_for PassesOwn.never rfl (pi_list (pe_callO G__law_w_next (hr.mono (by decide)) (pa_cons (pv 0) (pa_cons (pv 6) pa_nil)))) (pg_name (i := 7) sc__law_w_steps.nd rfl (Or.inl rfl)) (pss_one (ps_if (pt_cmp (pc_dnotin (hu_of hr) (pv 7) (pv 2))) (pss_cons (ps_dput (hu_of hr) (pv 2) (pv 7) (pv 4) rfl)
    (pss_one (ps_expr (pe_bm PySem.F.plainAttrs_list PySem.F.slot_list_append PySem.F.type_list_append mt_append (pv 5) (pa_cons (pv 7) pa_nil))))) pss_nil)))))
    (pss_one (ps_set (i := 3) sc__law_w_steps.nd rfl (Or.inl rfl) (pv 5))))))
    (pss_one (ps_ret (pv 2))))), ?_⟩
    have hn := nxP_lt ok
    have n6 := numU_le ok
    have gst := good_stE (nx := nxP d) (u := u) (n := numU d) hu hn
    -- found, row, many
    refine fun b nb => ⟨_, rfl, upd_same, [(.inl (u : Int), .int 0)], rfl, (by show 1 ≤ 15; decide), ?_⟩
    have ex1 : Ex H (upd (upd H b (.dK [])) b (.dK (mergeK [] [(.inl (u : Int), .int 0)]))) := Evl.Ex.mut (Evl.Ex.new nb) nb
    have hb1 : (upd (upd H b (.dK [])) b (.dK (mergeK [] [(.inl (u : Int), .int 0)]))) b = some (.dK (kvsG gD (stE (nxP d) u 0))) := upd_same
    generalize upd (upd H b (.dK [])) b (.dK (mergeK [] [(.inl (u : Int), .int 0)])) = H1 at ex1 hb1 ⊢
    refine ⟨_, rfl, sz_of (by show 1 ≤ 100000; decide), fun rw0 nrw => ?_⟩
    have brw : rw0 ≠ b := fun z => ne_of_none hb1 nrw z.symm
    have ex2 : Ex H (upd H1 rw0 (.lst [.int (u : Int)])) := ex1.trans (Evl.Ex.new nrw)
    have hb2 : (upd H1 rw0 (.lst [.int (u : Int)])) b = some (.dK (kvsG gD (stE (nxP d) u 0))) := by rw [upd_ne (fun z => brw z.symm)]; exact hb1
    have hf2 : (upd H1 rw0 (.lst [.int (u : Int)])) rw0 = some (.lst (keysE ((stE (nxP d) u 0).drop 0))) := upd_same
    generalize upd H1 rw0 (.lst [.int (u : Int)]) = H2 at ex2 hb2 hf2 ⊢
    refine ⟨_, _, _, rfl, ?_⟩
    show tSeq _ _ _ _ _
    refine Evl.q_while (fun m σ H' => ∃ (k my : Nat) (rw : Addr) (y5 y6 y7 : Option V), σ = [some v, some (.int (u : Int)), some (.ref b), some (.ref rw), some (.int (my : Int)), y5, y6, y7] ∧ Ex H H' ∧ H' b = some (.dK (kvsG gD (stE (nxP d) u k))) ∧ H' rw = some (.lst (keysE ((stE (nxP d) u k).drop k))) ∧
      k ≤ (stE (nxP d) u k).length ∧ (∀ e ∈ (stE (nxP d) u k).drop k, e.2.2 = my) ∧ rw ≠ b ∧ m + k = numU d + 1) (numU d + 1) ⟨0, 0, rw0, none, none, none, rfl, ex2, hb2, hf2, Nat.zero_le _, fun e he => ?_, brw, rfl⟩ ?_
    · have he' : e ∈ [(u, (none : Option Nat), 0)] := he
      rw [List.mem_singleton] at he'
      rw [he']
    rintro m σ' H' ⟨k, my, rw1, y5, y6, y7, rfl, x2, hb, hf, kl, hmy, rwb, hm⟩
    refine ⟨!decide (((stE (nxP d) u k).drop k).map (·.1) = []), ?_, fun c H3 x3 => ?_, fun c H3 x3 => ?_⟩
    · intro H3 e Q' q'
      refine ⟨_, rfl, sz_of (by show 0 ≤ 100000; decide), fun l0 n0 => ⟨.list (intsD (((stE (nxP d) u k).drop k).map (·.1))), .list [], .lst (.inl (.inl (Evl.Ex.new n0 _ _ (e _ _ hf)))) (dp_nat _), .lst (.inl (.inl upd_same)) .nil, intsD_shaped _, intsD_shaped [], _, rfl, ?_⟩⟩
      rw [eqv_nil]
      exact q' _ (Evl.Ex.new n0)
    · -- one level
      have hne : (stE (nxP d) u k).drop k ≠ [] := fun z => by rw [z] at c; simp at c
      have klt : k < (stE (nxP d) u k).length := Nat.lt_of_not_le fun h => hne (List.drop_of_length_le h)
      have elen := (gst k).len
      have hb3 := x3 _ _ hb
      have hf3 := x3 _ _ hf
      refine ⟨fun σ2 H2 => ∃ m', m' < m ∧ ∃ (k my : Nat) (rw : Addr) (y5 y6 y7 : Option V), σ2 = [some v, some (.int (u : Int)), some (.ref b), some (.ref rw), some (.int (my : Int)), y5, y6, y7] ∧ Ex H H2 ∧ H2 b = some (.dK (kvsG gD (stE (nxP d) u k))) ∧ H2 rw = some (.lst (keysE ((stE (nxP d) u k).drop k))) ∧
        k ≤ (stE (nxP d) u k).length ∧ (∀ e ∈ (stE (nxP d) u k).drop k, e.2.2 = my) ∧ rw ≠ b ∧ m' + k = numU d + 1, fun _ _ h => h, ?_⟩
      refine ⟨_, rfl, (my : Int), 1, rfl, rfl, sz_of (by show 0 ≤ 100000; decide), fun lt nlt => ⟨_, _, rfl, ?_⟩⟩
      have ltb : lt ≠ b := fun z => ne_of_none hb3 nlt z.symm
      have ltrw : lt ≠ rw1 := fun z => ne_of_none hf3 nlt z.symm
      have nlt0 : H lt = none := fresh_back (x2.trans x3) nlt
      have x4 := (x2.trans x3).trans (Evl.Ex.new nlt (o := .lst []))
      have hb4 := Evl.Ex.new nlt (o := .lst []) _ _ hb3
      have hf4 := Evl.Ex.new nlt (o := .lst []) _ _ hf3
      have hl4 : (upd H3 lt (.lst [])) lt = some (.lst (keysE [])) := upd_same
      generalize upd H3 lt (.lst []) = H4 at x4 hb4 hf4 hl4 ⊢
      show tSeq _ _ _ _ _
      refine Evl.q_forLn (a := rw1) (xs := keysE ((stE (nxP d) u k).drop k)) (ev_var rfl) (.inl (.inl hf4)) (fun t σ H' => ∃ (y6 y7 : Option V) (tl : List Ent), σ = [some v, some (.int (u : Int)), some (.ref b), some (.ref rw1), some (.int ((my + 1 : Nat) : Int)), some (.ref lt), y6, y7] ∧ Ex H H' ∧ H' b = some (.dK (kvsG gD (stE (nxP d) u (k + t)))) ∧
          H' rw1 = some (.lst (keysE ((stE (nxP d) u k).drop k))) ∧ stE (nxP d) u (k + t) = stE (nxP d) u k ++ tl ∧ (∀ e ∈ tl, e.2.2 = my + 1) ∧ H' lt = some (.lst (keysE tl)))
        (fun H5 x5 => ⟨y6, y7, [], rfl, x4.trans x5, x5 _ _ hb4, x5 _ _ hf4, (List.append_nil _).symm, fun e he => (by cases he), x5 _ _ hl4⟩) (fun i σ' H' _ ⟨_, _, _, _, _, _, h, _⟩ => .inl (.inl h)) ?_ ?_
      · rintro t x σ' H5 hx ⟨y6, y7, tl, rfl, x5, hb5, hf5, htl, hdp, hl5⟩
        -- the entry
        obtain ⟨w0, hw0, rfl⟩ := natL_at hx
        rw [List.getElem?_map, List.getElem?_drop] at hw0
        obtain ⟨⟨w, q0, dp⟩, he0, ew⟩ := Option.map_eq_some_iff.mp hw0
        have ew : w = w0 := ew
        subst ew
        have edp : dp = my := hmy (w, q0, dp) (List.mem_of_getElem? (by rw [List.getElem?_drop]; exact he0))
        subst edp
        have he1 : (stE (nxP d) u (k + t))[k + t]? = some (w, q0, dp) := by rw [htl]; exact at_app he0
        have wn : w < numU d := (gst k).lt _ (List.mem_of_getElem? he0)
        have est := stE_next he1
        have evl : EvL (tCall spAcc [] E0 (tCons (tVar 0) (tCons (tVar 6) tNil))) [some v, some (.int (u : Int)), some (.ref b), some (.ref rw1), some (.int ((dp + 1 : Nat) : Int)), some (.ref lt), some (.int (w : Int)), y7] H5 (natL (nxP d w)) := by
          intro H6 e Q' q'
          exact ⟨_, rfl, _, rfl, v, d, w, rfl, (hd.ex x5).ex e, ok, wn, fun p H7 np x7 h7 => q' p H7 np x7 h7⟩
        refine Evl.s_forNL evl (fun p i σ' H' => ∃ (y7 : Option V) (tl' : List Ent), σ' = [some v, some (.int (u : Int)), some (.ref b), some (.ref rw1), some (.int ((dp + 1 : Nat) : Int)), some (.ref lt), some (.int (w : Int)), y7] ∧ Ex H H' ∧ H' b = some (.dK (kvsG gD (addE w dp (stE (nxP d) u (k + t)) ((nxP d w).take i)))) ∧
            H' rw1 = some (.lst (keysE ((stE (nxP d) u k).drop k))) ∧ addE w dp (stE (nxP d) u (k + t)) ((nxP d w).take i) = stE (nxP d) u k ++ tl' ∧ (∀ e ∈ tl', e.2.2 = dp + 1) ∧ H' lt = some (.lst (keysE tl')) ∧ H' p = some (.lst (natL (nxP d w))) ∧ p ≠ b ∧ p ≠ lt)
          (fun p H6 np x6 h6 => ⟨y7, tl, rfl, x5.trans x6, x6 _ _ hb5, x6 _ _ hf5, htl, hdp, x6 _ _ hl5, h6, fun z => ?_, fun z => ?_⟩) (fun p i σ' H' _ ⟨_, _, _, _, _, _, _, _, _, h, _⟩ => .inl (.inl h)) ?_ ?_
        · rw [z, hb5] at np
          cases np
        · rw [z, hl5] at np
          cases np
        · rintro p i x σ' H6 hx ⟨y7, tl', rfl, x6, hb6, hf6, htl', hdp', hl6, hp6, pb, pl⟩
          obtain ⟨o, ho, rfl⟩ := natL_at hx
          have et := addE_take (E := stE (nxP d) u (k + t)) (w := w) (dp := dp) ho
          have ge := good_addE (os := (nxP d w).take i) (gst (k + t)) he1 fun o ho => ⟨List.mem_of_mem_take ho, hn w wn o (List.mem_of_mem_take ho)⟩
          rw [et]
          generalize addE w dp (stE (nxP d) u (k + t)) ((nxP d w).take i) = E6 at hb6 htl' ge
          refine ⟨_, rfl, _, rfl, b, _, rfl, .inl ⟨_, .inl (o : Int), .inl hb6, rfl, rfl⟩, _, rfl, ?_⟩
          rw [kvsG_has]
          have elen6 := ge.len
          have tlen : tl'.length ≤ 6 := by
            have : E6.length = (stE (nxP d) u k).length + tl'.length := by rw [htl', List.length_append]
            omega
          cases c : hasE E6 o with
          | true =>
            refine ite2 (fun z => by cases z) (fun _ => ⟨_, tl', rfl, x6, ?_, hf6, ?_, hdp', hl6, hp6, pb, pl⟩)
            · rw [add1_same c]; exact hb6
            · rw [add1_same c]; exact htl'
          | false =>
            refine ite2 (fun _ => ?_) (fun z => absurd rfl z)
            refine ⟨_, rfl, _, rfl, _, rfl, b, _, rfl, .inl ⟨_, .inl (o : Int), hb6, rfl, sz_lt (by unfold kvsG; rw [List.length_map]; omega), rfl⟩, ?_⟩
            rw [kvsG_put (g := gD) (w := w) (dp := dp) (v := .int ((dp + 1 : Nat) : Int)) c rfl]
            have hl7 : (upd H6 b (.dK (kvsG gD (add1 w dp E6 o)))) lt = some (.lst (keysE tl')) := by rw [upd_ne ltb]; exact hl6
            refine ⟨_, rfl, Or.inl ⟨rfl, _, .inl (.inl hl7)⟩, _, rfl, lt, _, _, rfl, rfl, hl7, sz_lt (by unfold keysE natL; rw [List.length_map, List.length_map]; omega), _, tl' ++ [(o, some w, dp + 1)], rfl, Evl.Ex.mut (Evl.Ex.mut x6 nb) nlt0, ?_, ?_, ?_, ?_, ?_, ?_, pb, pl⟩
            · rw [upd_ne (fun z => ltb z.symm), upd_same]
            · rw [upd_ne (fun z => ltrw z.symm), upd_ne rwb]
              exact hf6
            · unfold add1
              rw [if_neg (by rw [c]; exact Bool.false_ne_true), htl', List.append_assoc]
            · intro e he
              rcases List.mem_append.mp he with he | he
              · exact hdp' e he
              · rw [List.mem_singleton] at he
                rw [he]
            · rw [upd_same, keysE_app]
              rfl
            · rw [upd_ne pl, upd_ne pb]
              exact hp6
        · rintro p σ' H6 ⟨y7, tl', rfl, x6, hb6, hf6, htl', hdp', hl6, hp6, pb, pl⟩
          rw [List.take_of_length_le (by unfold natL; rw [List.length_map]; exact Nat.le_refl _), ← est] at hb6 htl'
          exact ⟨_, y7, tl', rfl, x6, hb6, hf6, htl', hdp', hl6⟩
      · rintro σ' H5 ⟨y6, y7, tl, rfl, x5, hb5, hf5, htl, hdp, hl5⟩
        have e1 : (keysE ((stE (nxP d) u k).drop k)).length = (stE (nxP d) u k).length - k := by unfold keysE natL; rw [List.length_map, List.length_map, List.length_drop]
        rw [e1, show k + ((stE (nxP d) u k).length - k) = (stE (nxP d) u k).length by omega] at hb5 htl
        have edrop : (stE (nxP d) u (stE (nxP d) u k).length).drop (stE (nxP d) u k).length = tl := by rw [htl, List.drop_left]
        refine ⟨_, rfl, m - ((stE (nxP d) u k).length - k), by omega, (stE (nxP d) u k).length, my + 1, lt, _, _, _, rfl, x5, hb5, ?_, ?_, ?_, ltb, by omega⟩
        · rw [edrop]
          exact hl5
        · rw [htl, List.length_append]
          omega
        · rw [edrop]
          exact hdp
    · -- the end
      have hnil : ((stE (nxP d) u k).drop k).map (·.1) = [] := by simpa using c
      have fin : FinE (nxP d) u (stE (nxP d) u k) := ⟨k, rfl, List.drop_eq_nil_iff.mp (List.map_eq_nil_iff.mp hnil)⟩
      rw [fin.uniq (bfs_fin hu hn)] at hb
      exact ⟨_, rfl, q b H3 nb (x2.trans x3) (x3 _ _ hb)⟩
/-! #### what is shown -/
def RepOk (d : PyData) : Prop := d.showable = true ∧ d.hasDict = false ∧ d.depth ≤ 60 ∧ d.shown.length ≤ sizeLine
theorem ints_show : ∀ {ns : List Nat}, (∀ o ∈ ns, o < 1000) → PyData.showableAll (intsD ns) = true ∧ PyData.hasDictAll (intsD ns) = false ∧ PyData.leavesShortAll 13 (intsD ns) = true ∧ PyData.bulkAll (intsD ns) = ns.length
  | [], _ => ⟨rfl, rfl, rfl, rfl⟩
  | o :: r, h => by
    obtain ⟨h1, h2, h3, h4⟩ := ints_show (ns := r) fun x hx => h x (List.mem_cons_of_mem _ hx)
    have ho := h o List.mem_cons_self
    refine ⟨?_, ?_, ?_, ?_⟩
    · show (decide ((o : Int).natAbs.log2 < 1920) && PyData.showableAll (intsD r)) = true
      have := Nat.log2_le_self o
      rw [h1, decide_eq_true (by rw [Int.natAbs_natCast]; omega)]
      rfl
    · show (false || PyData.hasDictAll (intsD r)) = false
      rw [h2]
      rfl
    · show (decide ((PyData.shown (.int (o : Int))).length ≤ 13) && PyData.leavesShortAll 13 (intsD r)) = true
      rw [h3, decide_eq_true (PyData.shown_int_le (by rw [Int.natAbs_natCast]; omega))]
      rfl
    · show 0 + 1 + PyData.bulkAll (intsD r) = r.length + 1
      rw [h4]
      omega
theorem rep_list {ns : List Nat} (hl : ns.length ≤ 1000) (h : ∀ o ∈ ns, o < 1000) : RepOk (.list (intsD ns)) := by
  obtain ⟨h1, h2, h3, h4⟩ := ints_show h
  refine ⟨h1, h2, ?_, PyData.shown_fits_bulk (B := 13) (by decide) (by decide) h3 ?_⟩
  · show PyData.depthAll (intsD ns) + 1 ≤ 60
    rw [intsD_deep]
    decide
  · show PyData.bulkAll (intsD ns) ≤ 2 ^ 20
    rw [h4]
    have : (1000 : Nat) ≤ 2 ^ 20 := by decide
    omega
theorem rep_tup {ns : List Nat} (hl : ns.length ≤ 1000) (h : ∀ o ∈ ns, o < 1000) : RepOk (.tuple (intsD ns)) := by
  obtain ⟨h1, h2, h3, h4⟩ := ints_show h
  refine ⟨h1, h2, ?_, PyData.shown_fits_bulk (B := 13) (by decide) (by decide) h3 ?_⟩
  · show PyData.depthAll (intsD ns) + 1 ≤ 60
    rw [intsD_deep]
    decide
  · show PyData.bulkAll (intsD ns) ≤ 2 ^ 20
    rw [h4]
    have : (1000 : Nat) ≤ 2 ^ 20 := by decide
    omega
theorem in_nat {ns : List Nat} {b : Nat} (h : b ∈ ns) : inV (V.int (b : Int)) (natL ns) = true := by
  unfold inV natL
  rw [List.any_eq_true]
  exact ⟨V.int (b : Int), List.mem_map.mpr ⟨b, h, rfl⟩, beq_self_eq_true _⟩
theorem flat_nat (ns : List Nat) : (natL ns).all flatV = true := by
  rw [List.all_eq_true]
  intro x hx
  obtain ⟨o, _, rfl⟩ := List.mem_map.mp hx
  rfl
theorem chain_lt {nx : Nat → List Nat} {u o D n : Nat} {ns : List Nat} (c : ChainOk nx u o D ns) (hu : u < n) (hn : ∀ w, w < n → ∀ o ∈ nx w, o < n) : ∀ k, k ≤ D → ∀ a, ns[k]? = some a → a < n := by
  obtain ⟨_, h0, _, hs⟩ := c
  intro k
  induction k with
  | zero =>
    intro _ a ha
    rw [h0] at ha
    cases ha
    exact hu
  | succ k ih =>
    intro hk a ha
    obtain ⟨x, y, h1, h2, h3⟩ := hs k (by omega)
    rw [h2] at ha
    cases ha
    exact hn x (ih (by omega) x h1) _ h3
theorem da_nat {H : Hp} : ∀ (ns : List Nat), DaAll H (natL ns) (intsD ns)
  | [] => .nil
  | o :: r => .cons (.int _) (da_nat r)
theorem flat_true (n : Nat) : (Evl.given n (fun _ => true) fun _ => V.bl true).all flatV = true := by
  rw [List.all_eq_true]
  intro x hx
  obtain ⟨o, _, rfl⟩ := List.mem_map.mp hx
  rfl
theorem no_false {n : Nat} : inV (V.bl false) (Evl.given n (fun _ => true) fun _ => V.bl true) = false := by
  unfold inV
  rw [List.any_eq_false]
  intro x hx
  obtain ⟨o, _, rfl⟩ := List.mem_map.mp hx
  decide
def spRight : Sp := fun vs H Q _ => ∃ (v : V) (d : PyData) (u o : Nat), vs = [v, .int (u : Nat), .int (o : Nat)] ∧ Da H v d ∧ okProg d = true ∧ u < numU d ∧ o < numU d ∧ Ret (.bl true) H Q
theorem ok_right (T : TLaw K w.params mg) : OkG P w K mg base 9 "_law_w_chain_right" ["program", "first", "other"] spRight := by
  have G_chain : Ok P w K mg base CX0 8 "chain" ["program", "unit", "other"] spChain := ok_chain T.toTReach
  have G__law_w_next : Ok P w K mg base CX0 1 "_law_w_next" ["program", "unit"] spAcc := ok_next T
  have G__law_w_steps : Ok P w K mg base CX0 2 "_law_w_steps" ["program", "unit"] spSteps := ok_steps T
  refine T.d_right.okG sc__law_w_chain_right bi__law_w_chain_right (fun vs H Q E h => ?_) (fun cdv A outer s H f vs Q E hr hG h => ?_)
  · obtain ⟨v, d, u, o, rfl, _⟩ := h
    rfl
  · obtain ⟨v, d, u, o, rfl, hd, ok, hu, ho, q⟩ := h
    refine ⟨_, (pss_cons (ps_asg (pe_tup (pa_cons (pe_callO G_chain (hr.mono (by decide)) (pa_cons (pv 0) (pa_cons (pv 1) (pa_cons (pv 2) pa_nil)))) (pa_cons (pe_dget2 (hu_of hr) (pe_callO G__law_w_steps (hr.mono (by decide)) (pa_cons (pv 0) (pa_cons (pv 1) pa_nil))) (pv 2) pe_non ⟨by rfl, by rfl, by rfl, by rfl⟩) pa_nil))) (pg_tup rfl (pgs_cons (pg_name (i := 3) sc__law_w_chain_right.nd rfl (Or.inr rfl)) (pgs_cons (pg_name (i := 4) sc__law_w_chain_right.nd rfl (Or.inl rfl)) pgs_nil))))
    (pss_cons (ps_if (PW.pt (pw_or (pt_cmpR op_isN (pv 4) pe_non (nomark _)) (pw_or1 (pt_cmpR op_isN (pv 3) pe_non (nomark _))))) (pss_one (ps_ret (pe_and (pe_cmpR op_isN (pv 4) pe_non (nomark _)) (pe_one (pe_cmpR op_isN (pv 3) pe_non (nomark _)))))) pss_nil)
    (pss_cons (ps_if (PW.pt (pw_or (pt_not (pt_val (pe_callB call_isi (by rfl) T.b_isinstance (by decide +kernel) (pa_cons (pv 3) (pa_cons (pe_bltn (by rfl) T.b_list (by decide +kernel) (v := .ty "list") rfl) pa_nil))))) (pw_or (pt_cmpR op_ne (pe_callB call_len_seq (by rfl) T.b_len (by decide +kernel) (pa_cons (pv 3) pa_nil)) (pe_op op_add (pv 4) pe_int) (nomark _)) (pw_or1 (pt_cmpR op_ne (pe_callB (call_repr hG (hu64 hr)) (by rfl) T.b_repr (by decide +kernel) (pa_cons (pe_lst (pa_cons (pe_ix ix_list (pv 3) pe_int (fun _ _ => rfl)) (pa_cons (pe_ix ix_list (pv 3) (pe_un un_neg pe_int) (fun _ _ => rfl)) pa_nil))) pa_nil)) (pe_callB (call_repr hG (hu64 hr)) (by rfl) T.b_repr (by decide +kernel) (pa_cons (pe_lst (pa_cons (pv 1) (pa_cons (pv 2) pa_nil))) pa_nil)) (nomark _)))))) (pss_one (ps_ret pe_bl)) pss_nil)
    (pss_cons (ps_setLc (i := 5) (own := [("k", 6)]) (g := gName 6) rfl sc__law_w_chain_right.nd rfl rfl (sw_true rfl rfl rfl (by decide +kernel)) (pi_range1 (by rfl) T.b_range (pa_cons (pv 4) pa_nil)) (blkOk_by (N := N__law_w_chain_right) (sc := defScope s__law_w_chain_right) (by decide +kernel)) (fun _ _ _ _ _ => (pg_name (i := 6) sc__law_w_chain_right.nd rfl (Or.inl rfl))) (fun _ _ _ _ _ => pts_nil) (fun _ _ _ _ _ => (pe_cmpR (op_inK (K := K) rfl) (pe_ix (ix_listK (K := K) rfl) (pv 3) (pe_op op_add (pv 6) pe_int) (fun _ _ => rfl)) (pe_callO G__law_w_next (hr.mono (by decide)) (pa_cons (pv 0) (pa_cons (pe_ix (ix_listK (K := K) rfl) (pv 3) (pv 6) (fun _ _ => rfl)) pa_nil))) (by rfl))))
    (pss_cons (ps_expr (pe_bm PySem.F.plainAttrs_list PySem.F.slot_list_append PySem.F.type_list_append mt_append (pv 3) (pa_cons pe_str pa_nil)))
    (pss_one (ps_ret (pe_and (pe_cmpR op_notIn_seq pe_bl (pv 5) (by rfl)) (pe_one (pe_cmpR op_eq (pe_callB call_len_seq (by rfl) T.b_len (by decide +kernel) (pa_cons (pe_callO G_chain (hr.mono (by decide)) (pa_cons (pv 0) (pa_cons (pv 1) (pa_cons (pv 2) pa_nil)))) pa_nil)) (pe_op op_add (pv 4) pe_int) (nomark _))))))))))), ?_⟩
    have hn := nxP_lt ok
    have n6 := numU_le ok
    have g := bfs_good ok hu
    cases c : hasE (bfs (nxP d) u (numU d)) o with
    | false =>
      refine ⟨_, rfl, _, rfl, _, rfl, v, d, u, o, rfl, hd, ok, hu, ho, fun _ H1 x1 => ?_, fun i q' D hi => ?_⟩
      · refine ⟨_, rfl, _, rfl, v, d, u, rfl, hd.ex x1, ok, hu, fun b H2 nb x2 hb => ?_⟩
        refine ⟨b, rfl, .inl ⟨_, .inl hb⟩, _, rfl, _, .inl ⟨_, .inl (o : Int), .inl hb, rfl, rfl⟩, ?_⟩
        rw [kvsG_no c]
        refine ⟨sz_of (by show 2 ≤ 100000; decide), fun t nt => ?_⟩
        refine ⟨t, _, rfl, st_of upd_same, rfl, _, _, rfl, _, _, rfl, rfl, ?_⟩
        refine ⟨_, rfl, rfl, _, rfl, ite2 (fun _ => ?_) (fun z => absurd rfl z)⟩
        refine ⟨_, rfl, rfl, _, rfl, ite2 (fun _ => ?_) (fun z => absurd rfl z)⟩
        exact ⟨_, rfl, rfl, q _ ((x1.trans x2).trans (Evl.Ex.new nt))⟩
      · have : hasE (bfs (nxP d) u (numU d)) o = true := hasE_iff.mpr ⟨i, _, hi, rfl⟩
        rw [c] at this
        cases this
    | true =>
      obtain ⟨i, ⟨o', qp, D⟩, hi, rfl⟩ := hasE_iff.mp c
      have dl : D ≤ i := g.deep i _ hi
      have il := (List.getElem?_eq_some_iff.mp hi).1
      have el := g.len
      have ho' : o' < numU d := ho
      refine ⟨_, rfl, _, rfl, _, rfl, v, d, u, o', rfl, hd, ok, hu, ho, fun z => ?_, fun i2 q2 D2 hi2 p H1 ns cok np x1 hp => ?_⟩
      · have c' : hasE (bfs (nxP d) u (numU d)) o' = true := c
        rw [c'] at z
        cases z
      · have eD := getE_inj g.nd hi2 hi rfl
        cases eD
        obtain ⟨hlen, h0, hD, hs⟩ := id cok
        have lt := chain_lt cok hu hn
        refine ⟨_, rfl, _, rfl, v, d, u, rfl, hd.ex x1, ok, hu, fun b H2 nb x2 hb => ?_⟩
        refine ⟨b, rfl, .inl ⟨_, .inl hb⟩, _, rfl, _, .inl ⟨_, .inl (o' : Int), .inl hb, rfl, rfl⟩, ?_⟩
        rw [kvsG_at (g := gD) g.nd hi, show (some (gD (o', qp, D))).getD V.non = V.int (D : Int) from rfl]
        refine ⟨sz_of (by show 2 ≤ 100000; decide), fun t nt => ?_⟩
        have x3 := (x1.trans x2).trans (Evl.Ex.new nt (o := .tup [V.ref p, .int (D : Int)]))
        have hp3 : (upd H2 t (.tup [V.ref p, .int (D : Int)])) p = some (.lst (natL ns)) := Evl.Ex.new nt _ _ (x2 _ _ hp)
        refine ⟨t, _, rfl, st_of upd_same, rfl, _, _, rfl, _, _, rfl, rfl, ?_⟩
        try dsimp only at x3 hp3 ⊢
        generalize upd H2 t (.tup [V.ref p, .int (D : Int)]) = H3 at x3 hp3 ⊢
        have nl : (natL ns).length = D + 1 := by unfold natL; rw [List.length_map, hlen]
        -- neither is None
        refine ⟨_, rfl, rfl, _, rfl, ite2 (fun z => absurd z (by simp [gD])) (fun _ => ?_)⟩
        refine ⟨_, rfl, rfl, _, rfl, ite2 (fun z => absurd z (by simp)) (fun _ => ?_)⟩
        -- a list of the right length with the right ends
        refine ⟨_, rfl, .ref p, .ty "list", _, .type "list", _, rfl, .ty "list", (Da.lst hp3 (da_nat ns)).ty, kit_d (.list (intsD ns)) (.inr (.inr (.inr (.inr rfl)))), _, rfl, ?_⟩
        rw [ty_list]
        have hp4 := hp3
        have x34 := x3
        refine ite2 (fun z => by cases z) (fun _ => ?_)
        refine ⟨_, rfl, p, _, rfl, .inl (.inl (.inl hp4)), _, rfl, (D : Int), 1, rfl, rfl, rfl, _, rfl, ?_⟩
        rw [nl]
        refine ite2 (fun z => absurd z (by simp)) (fun _ => ?_)
        obtain ⟨rs, ers⟩ : ∃ rs, ns = rs ++ [o'] := ⟨ns.take D, by
          have := List.take_add_one (l := ns) (i := D)
          rw [List.take_of_length_le (by omega), hD] at this
          exact this⟩
        have enl : natL ns = natL rs ++ [.int (o' : Int)] := by rw [ers]; unfold natL; rw [List.map_append]; rfl
        have rp : RepOk (.list (intsD [u, o'])) := rep_list (by show 2 ≤ 1000; decide) fun x hx => by
          simp only [List.mem_cons, List.not_mem_nil, or_false] at hx
          rcases hx with rfl | rfl
          · have : x < numU d := hu
            omega
          · omega
        obtain ⟨rp1, rp2, rp3, rp4⟩ := rp
        refine ⟨_, rfl, p, _, 0, _, rfl, rfl, .inl (.inl hp4), atI_nat (j := 0) (natL_of h0), _, rfl, 1, rfl, p, _, _, _, rfl, rfl, .inl (.inl hp4), by rw [enl]; exact atI_last _ _, sz_of (by show 2 ≤ 100000; decide), fun l1 nl1 => ?_⟩
        have x5 := x34.trans (Evl.Ex.new nl1 (o := .lst [V.int (u : Int), .int (o' : Int)]))
        have hp5 := Evl.Ex.new nl1 (o := .lst [V.int (u : Int), .int (o' : Int)]) _ _ hp4
        refine ⟨l1, .list (intsD [u, o']), rfl, .lst (.inl (.inl upd_same)) (dp_nat [u, o']), rp1, rp2, rp3, rp4, ?_⟩
        try dsimp only at x5 hp5 ⊢
        generalize upd H3 l1 (.lst [V.int (u : Int), .int (o' : Int)]) = H5 at x5 hp5 ⊢
        refine ⟨_, rfl, _, rfl, sz_of (by show 2 ≤ 100000; decide), fun l2 nl2 => ?_⟩
        have x6 := x5.trans (Evl.Ex.new nl2 (o := .lst [V.int (u : Int), .int (o' : Int)]))
        have hp6 := Evl.Ex.new nl2 (o := .lst [V.int (u : Int), .int (o' : Int)]) _ _ hp5
        refine ⟨l2, .list (intsD [u, o']), rfl, .lst (.inl (.inl upd_same)) (dp_nat [u, o']), rp1, rp2, rp3, rp4, rfl, _, rfl, ite2 (fun z => absurd z (by simp)) (fun _ => ?_)⟩
        try dsimp only at x6 hp6 ⊢
        generalize upd H5 l2 (.lst [V.int (u : Int), .int (o' : Int)]) = H6 at x6 hp6 ⊢
        -- each is accessed by the one before
        have elg := Evl.el_lcR1 (te := tOp (rIn K false) (tOp (rIxL K) (tVar 3) (tOp (rI0 fun i j => V.int (i + j)) (tVar 6) (tC (.int 1)))) (tCall spAcc [] E0 (tCons (tVar 0) (tCons (tOp (rIxL K) (tVar 3) (tVar 6)) tNil)))) (t := tYes) (σ := [some v, some (.int (u : Int)), some (.int (o' : Int)), some (.ref p), some (.int (D : Int)), none, none]) (H := H6) (ta := tCons (tVar 4) tNil) (j := 6) (vs := [6]) (n := (D : Int)) (fun _ => true) (fun _ => .bl true)
          (ea_cons (ev_var rfl) ea_nil) ⟨by omega, by omega⟩ (fun _ => rfl) (fun k H7 x7 hk => fun H8 e Q' q' => q' H8 (Evl.Ex.refl _)) (fun k H7 x7 hk _ => fun H8 e Q' q' => by
            obtain ⟨a, b', e1, e2, e3⟩ := hs k (by omega)
            have hp8 := e _ _ (x7 _ _ hp6)
            have an := lt k (by omega) a e1
            refine ⟨_, rfl, _, rfl, (k : Int), 1, rfl, rfl, p, _, _, _, rfl, rfl, .inl (.inl hp8), atI_nat (j := k + 1) (natL_of e2), _, rfl, _, rfl, _, rfl, p, _, _, _, rfl, rfl, .inl (.inl hp8), atI_nat (natL_of e1), v, d, a, rfl, hd.ex ((x6.trans x7).trans e), ok, an, fun l3 H9 nl3 x9 hl3 => ?_⟩
            refine ⟨l3, _, rfl, .inl (.inl (.inl hl3)), rfl, flat_nat _, ?_⟩
            rw [if_neg (by decide), in_nat e3]
            exact q' H9 x9)
        refine q_asgL elg fun gg H7 ngg x7 hgg => ?_
        have hp7 := x7 _ _ hp6
        refine ⟨_, rfl, Or.inl ⟨rfl, _, .inl (.inl hp7)⟩, p, _, _, rfl, rfl, hp7, sz_lt (by rw [nl]; omega), ?_⟩
        have x8 : Ex H (upd H7 p (.lst (natL ns ++ [.str "changed"]))) := Evl.Ex.mut (x6.trans x7) np
        have gp : gg ≠ p := fun z => by
          rw [z, hp6] at ngg
          cases ngg
        have hg8 : (upd H7 p (.lst (natL ns ++ [.str "changed"]))) gg = some (.lst (Evl.given ((D : Int)).toNat (fun _ => true) fun _ => .bl true)) := by rw [upd_ne gp]; exact hgg
        generalize upd H7 p (.lst (natL ns ++ [.str "changed"])) = H8 at x8 hg8 ⊢
        refine ⟨_, rfl, gg, _, rfl, .inl (.inl (.inl hg8)), rfl, flat_true _, _, rfl, ite2 (fun _ => ?_) (fun z => absurd (by rw [no_false]; rfl) z)⟩
        refine ⟨_, rfl, _, rfl, _, rfl, v, d, u, o', rfl, hd.ex x8, ok, hu, ho, fun z => ?_, fun i3 q3 D3 hi3 p2 H9 ns2 cok2 np2 x9 hp2 => ?_⟩
        · have c' : hasE (bfs (nxP d) u (numU d)) o' = true := c
          rw [c'] at z
          cases z
        · have eD := getE_inj g.nd hi3 hi rfl
          cases eD
          refine ⟨p2, _, rfl, .inl (.inl (.inl hp2)), _, rfl, (D : Int), 1, rfl, rfl, rfl, ?_⟩
          have nl2' : (natL ns2).length = D + 1 := by unfold natL; rw [List.length_map, cok2.1]
          rw [nl2', show decide (V.int ((D + 1 : Nat) : Int) = V.int ((D : Int) + 1)) = true from decide_eq_true rfl]
          exact q H9 (x8.trans x9)
end
end FW
set_option Elab.async false
set_option linter.all false
set_option maxRecDepth 100000
set_option maxHeartbeats 4000000
namespace FW
open PySem PySem.Spec PyProof.Rows L2
open Evl (pss_cut tCut)
open Evl (Ex Ev EvT EvA EvL EvU RC RV fresh_back ev_var ev_c ea_nil ea_cons ev_cb ev_op ev_is ev_andV ev_orV ev_notV et_test et_B et_and et_or et_not et_is s_ret s_when q_when q_asg q_asgL q_asgU rv_I0 rv_eq rv_ne rv_ixT rv_ixL RetL RetV)
/-! #### programs are small -/
structure Sm (k b : Nat) (d : PyData) : Prop where
  sh : d.showable = true
  nd : d.hasDict = false
  ls : d.leavesShort 13 = true
  dp : d.depth ≤ k
  bk : d.bulk ≤ b
theorem Sm.mono {k b k' b' : Nat} {d : PyData} (h : Sm k b d) (hk : k ≤ k') (hb : b ≤ b') : Sm k' b' d := ⟨h.sh, h.nd, h.ls, Nat.le_trans h.dp hk, Nat.le_trans h.bk hb⟩
theorem Sm.all {k b : Nat} : ∀ {ds : List PyData}, (∀ x ∈ ds, Sm k b x) → PyData.showableAll ds = true ∧ PyData.hasDictAll ds = false ∧ PyData.leavesShortAll 13 ds = true ∧ PyData.depthAll ds ≤ k ∧ PyData.bulkAll ds ≤ ds.length * (b + 1)
  | [], _ => ⟨rfl, rfl, rfl, Nat.zero_le _, Nat.zero_le _⟩
  | x :: r, h => by
    obtain ⟨h1, h2, h3, h4, h5⟩ := Sm.all (ds := r) fun y hy => h y (List.mem_cons_of_mem _ hy)
    have hx := h x List.mem_cons_self
    refine ⟨?_, ?_, ?_, ?_, ?_⟩
    · show (x.showable && PyData.showableAll r) = true
      rw [hx.sh, h1]
      rfl
    · show (x.hasDict || PyData.hasDictAll r) = false
      rw [hx.nd, h2]
      rfl
    · show (x.leavesShort 13 && PyData.leavesShortAll 13 r) = true
      rw [hx.ls, h3]
      rfl
    · show max x.depth (PyData.depthAll r) ≤ k
      exact Nat.max_le.mpr ⟨hx.dp, h4⟩
    · show x.bulk + 1 + PyData.bulkAll r ≤ (r.length + 1) * (b + 1)
      have := hx.bk
      rw [Nat.add_mul]
      omega
theorem Sm.tup {k b n : Nat} {ds : List PyData} (h : ∀ x ∈ ds, Sm k b x) (hl : ds.length ≤ n) : Sm (k + 1) (n * (b + 1)) (.tuple ds) := by
  obtain ⟨h1, h2, h3, h4, h5⟩ := Sm.all h
  exact ⟨h1, h2, h3, Nat.succ_le_succ h4, Nat.le_trans h5 (Nat.mul_le_mul_right _ hl)⟩
theorem Sm.int {k b : Nat} {i : Int} (h0 : 0 ≤ i) (h1 : i ≤ 65535) : Sm k b (.int i) := by
  refine ⟨?_, rfl, ?_, Nat.zero_le _, Nat.zero_le _⟩
  · show decide (i.natAbs.log2 < 1920) = true
    refine decide_eq_true ?_
    by_cases z : i.natAbs = 0
    · rw [z]
      decide
    · rw [Nat.log2_lt z]
      refine Nat.lt_of_lt_of_le (show i.natAbs < 2 ^ 16 from ?_) (Nat.pow_le_pow_right (by decide) (by decide))
      have : (2 : Nat) ^ 16 = 65536 := by decide
      omega
  · show decide ((PyData.shown (.int i)).length ≤ 13) = true
    exact decide_eq_true (PyData.shown_int_le (by
      have : (10 : Nat) ^ 12 = 1000000000000 := by decide
      omega))
theorem Sm.non {k b : Nat} : Sm k b .none := ⟨rfl, rfl, rfl, Nat.zero_le _, Nat.zero_le _⟩
def words : List Str := ["number", "copy", "add", "read", "write", "fail", "input", "show", "branch", "call", "wake"]
theorem Sm.word {k : Nat} {w : Str} (h : w ∈ words) : Sm k 6 (.str w) := by
  have z : ∀ w ∈ words, (PyData.str w).leavesShort 13 = true ∧ w.cps.size ≤ 6 := by decide +kernel
  obtain ⟨h1, h2⟩ := z w h
  exact ⟨rfl, rfl, h1, Nat.zero_le _, h2⟩
theorem Sm.rep {k b : Nat} {d : PyData} (h : Sm k b d) (hk : k ≤ 60) (hb : b ≤ 1000000) : RepOk d := by
  refine ⟨h.sh, h.nd, Nat.le_trans h.dp hk, PyData.shown_fits_bulk (B := 13) (by decide) (by decide) h.ls ?_⟩
  have : (2 : Nat) ^ 20 = 1048576 := by decide
  have := h.bk
  omega
theorem look_in {β : Type} {l : List (Str × β)} {k : Str} {x : β} (h : l.lookup k = some x) : (k, x) ∈ l := by
  induction l with
  | nil => cases h
  | cons a r ih =>
    obtain ⟨a1, a2⟩ := a
    simp only [List.lookup] at h
    split at h
    · rename_i c
      cases h
      rw [eq_of_beq c]
      exact List.mem_cons_self
    · exact List.mem_cons_of_mem _ (ih h)
theorem ins_small {bb : Bool} {lims : Lims} {fs : List Int} {d : PyData} (hl : ∀ e ∈ lims, 0 ≤ e.2.1 ∧ e.2.2 ≤ 65535) (hf : ∀ u : Nat, fs.getD u 0 ≤ 65535) (h : okIns bb lims fs d = true) : Sm 1 28 d := by
  unfold okIns at h
  split at h
  · rename_i w r
    cases e : kindsOf bb w with
    | none =>
      rw [e] at h
      cases h
    | some ks =>
      rw [e] at h
      have h' : (decide (r.length = ks.length) && okOps lims fs (.str w :: r) ks) = true := h
      rw [Bool.and_eq_true, decide_eq_true_eq] at h'
      obtain ⟨hlen, ho⟩ := h'
      have mem : w ∈ words ∧ ks.length ≤ 3 := by
        have z : ∀ e ∈ formsI ++ formsF, e.1 ∈ words ∧ e.2.length ≤ 3 := by decide +kernel
        have m : (w, ks) ∈ formsI ++ formsF := by
          unfold kindsOf at e
          split at e
          · exact List.mem_append_left _ (look_in e)
          · split at e
            · exact List.mem_append_right _ (look_in e)
            · cases e
        exact z _ m
      refine Sm.tup (k := 0) (b := 6) (n := 4) (fun x hx => ?_) (by rw [List.length_cons]; omega)
      rcases List.mem_cons.mp hx with rfl | hx
      · exact Sm.word mem.1
      · obtain ⟨i, hi⟩ := List.getElem?_of_mem hx
        have il := (List.getElem?_eq_some_iff.mp hi).1
        have z := okOps_at ho i (by omega)
        rw [show (PyData.str w :: r).getD (i + 1) .none = x from getD_at hi] at z
        unfold okOp at z
        split at z
        · split at z
          · rename_i u0 _
            obtain ⟨j, rfl, j0, j1⟩ := isIn_int z
            have := hf u0.toNat
            exact Sm.int j0 (by omega)
          · cases z
        · split at z
          · rename_i lo hi' hlk
            obtain ⟨j, rfl, j0, j1⟩ := isIn_int z
            obtain ⟨b1, b2⟩ := hl _ (look_in hlk)
            dsimp only at b1 b2
            exact Sm.int (by omega) (by omega)
          · cases z
  · cases h
theorem fs_small {us : List PyData} (h : ∀ i (u : PyData), us[i]? = some u → okUnit (i : Nat) u = true) (u : Nat) : (us.map fieldsD).getD u 0 ≤ 65535 := by
  rw [List.getD_eq_getElem?_getD, List.getElem?_map]
  cases e : us[u]? with
  | none =>
    show (0 : Int) ≤ 65535
    decide
  | some x =>
    obtain ⟨p, fz, b, rfl, f0, f1, _⟩ := okUnit_tup (h u x e)
    show fz ≤ 65535
    omega
theorem rep_prog {d : PyData} (h : okProg d = true) : RepOk d := by
  obtain ⟨us, fns, rfl⟩ := okProg_tup h
  have h' : (okUnits (.tuple us) && okFuns (us.length : Nat) (.tuple fns) && us.all (fun u => okInit (us.map fieldsD) (bodyD u)) && (List.range fns.length).all fun i => okCode (i : Nat) (fns.length : Nat) (us.map fieldsD) (bodyD (fns.getD i .none))) = true := h
  rw [Bool.and_eq_true, Bool.and_eq_true, Bool.and_eq_true, List.all_eq_true, List.all_eq_true] at h'
  obtain ⟨us', e, u6, u1, hu⟩ := okUnits_tup h'.1.1.1
  cases e
  obtain ⟨fns', e, f4, f1, hf⟩ := okFuns_tup h'.1.1.2
  cases e
  have fss := fs_small hu
  have hU : ∀ u ∈ us, Sm 3 (3 * (6 * 29 + 1)) u := by
    intro u hm
    obtain ⟨k, hk⟩ := List.getElem?_of_mem hm
    obtain ⟨p, fz, b, rfl, z0, z3, hp⟩ := okUnit_tup (hu k u hk)
    have kl := (List.getElem?_eq_some_iff.mp hk).1
    have hb : okInit (us.map fieldsD) b = true := h'.1.2 _ hm
    refine Sm.tup (fun x hx => ?_) (by show 3 ≤ 3; decide)
    simp only [List.mem_cons, List.not_mem_nil, or_false] at hx
    rcases hx with rfl | rfl | rfl
    · rcases hp with rfl | ⟨i, rfl, i0, i1⟩
      · exact Sm.non
      · exact Sm.int i0 (by omega)
    · exact Sm.int z0 (by omega)
    · unfold okInit at hb
      split at hb
      · rename_i is
        rw [Bool.and_eq_true, decide_eq_true_eq, List.all_eq_true] at hb
        refine Sm.tup (fun x hx => ins_small ?_ fss (hb.2 x hx)) hb.1
        intro e he
        rw [List.length_map] at he
        simp only [limsI, List.mem_cons, List.not_mem_nil, or_false] at he
        rcases he with rfl | rfl | rfl
        · exact ⟨by show (0 : Int) ≤ 0; omega, by show (2 : Int) ≤ 65535; omega⟩
        · exact ⟨by show (0 : Int) ≤ 0; omega, by show (65535 : Int) ≤ 65535; omega⟩
        · exact ⟨by show (0 : Int) ≤ 0; omega, by show ((us.length : Nat) : Int) - 1 ≤ 65535; omega⟩
      · cases hb
  have hF : ∀ x ∈ fns, Sm 3 (2 * (8 * 29 + 1)) x := by
    intro x hm
    obtain ⟨k, hk⟩ := List.getElem?_of_mem hm
    obtain ⟨u, b, rfl, z0, z1⟩ := okFun_tup (hf x hm)
    have kl := (List.getElem?_eq_some_iff.mp hk).1
    have hb := h'.2 k (List.mem_range.mpr kl)
    rw [getD_at hk] at hb
    have hb' : okCode (k : Nat) (fns.length : Nat) (us.map fieldsD) b = true := hb
    refine Sm.tup (fun x hx => ?_) (by show 2 ≤ 2; decide)
    simp only [List.mem_cons, List.not_mem_nil, or_false] at hx
    rcases hx with rfl | rfl
    · exact Sm.int z0 (by omega)
    · unfold okCode at hb'
      split at hb'
      · rename_i is
        rw [Bool.and_eq_true, Bool.and_eq_true, decide_eq_true_eq, decide_eq_true_eq, List.all_eq_true] at hb'
        refine Sm.tup (fun x hx => ?_) hb'.1.2
        obtain ⟨j, hj⟩ := List.getElem?_of_mem hx
        have jl := (List.getElem?_eq_some_iff.mp hj).1
        have z := hb'.2 j (List.mem_range.mpr jl)
        rw [getD_at hj] at z
        refine ins_small ?_ fss z
        intro e he
        rw [List.length_map] at he
        simp only [limsF, limsE, limsI, List.mem_append, List.mem_cons, List.not_mem_nil, or_false] at he
        rcases he with (((rfl | rfl | rfl) | rfl) | rfl) | rfl
        · exact ⟨by show (0 : Int) ≤ 0; omega, by show (2 : Int) ≤ 65535; omega⟩
        · exact ⟨by show (0 : Int) ≤ 0; omega, by show (65535 : Int) ≤ 65535; omega⟩
        · exact ⟨by show (0 : Int) ≤ 0; omega, by show ((us.length : Nat) : Int) - 1 ≤ 65535; omega⟩
        · exact ⟨by show (0 : Int) ≤ 0; omega, by show ((is.length : Nat) : Int) ≤ 65535; omega⟩
        · exact ⟨by show (0 : Int) ≤ (k : Int) + 1; omega, by show ((fns.length : Nat) : Int) - 1 ≤ 65535; omega⟩
        · exact ⟨by show (0 : Int) ≤ (j : Int) + 1; omega, by show ((is.length : Nat) : Int) ≤ 65535; omega⟩
      · cases hb'
  refine Sm.rep (k := 5) (b := 2 * (6 * (3 * (6 * 29 + 1) + 1) + 1)) (Sm.tup (fun x hx => ?_) (by show 2 ≤ 2; decide)) (by decide) (by decide)
  simp only [List.mem_cons, List.not_mem_nil, or_false] at hx
  rcases hx with rfl | rfl
  · exact Sm.tup hU u6
  · exact (Sm.tup hF f4).mono (by decide) (by decide)
/-! #### sorted tuples -/
def intsZ (zs : List Int) : List PyData := zs.map PyData.int
theorem dp_ints {K : PySem.W.Frag} {H : Hp} : ∀ (zs : List Int), DpAll K H (zs.map V.int) (intsZ zs)
  | [] => .nil
  | z :: r => .cons (.int _) (dp_ints r)
theorem rep_ints {zs : List Int} (hl : zs.length ≤ 1000) (h : ∀ z ∈ zs, 0 ≤ z ∧ z ≤ 65535) : RepOk (.tuple (intsZ zs)) := by
  refine Sm.rep (k := 1) (b := 1000) ((Sm.tup (k := 0) (b := 0) (n := 1000) (fun x hx => ?_) (by unfold intsZ; rw [List.length_map]; exact hl)).mono (by decide) (by decide)) (by decide) (by decide)
  obtain ⟨z, hz, rfl⟩ := List.mem_map.mp hx
  obtain ⟨h0, h1⟩ := h z hz
  exact Sm.int h0 h1
theorem sorted_one {a b ks : List Int} (ha : a.Perm ks) (hb : b.Perm ks) (sa : a.Pairwise (· ≤ ·)) (sb : b.Pairwise (· ≤ ·)) : a = b :=
  List.Perm.eq_of_pairwise (le := (· ≤ ·)) (fun x y _ _ h1 h2 => Int.le_antisymm h1 h2) sa sb (ha.trans hb.symm)
/-! #### a comprehension over the keys of a new dict -/
theorem el_lcKF {σ : L2.St} {H : Hp} {td te : TE} {t : TT} {kvs : List (Key × V)} {j : Nat} {vs : List Nat} (f : Nat → Bool) (v : Nat → V)
    (h : ∀ H1, Ex H H1 → ∀ Q : VK, (∀ b H2, H1 b = none → Ex H1 H2 → H2 b = some (.dK kvs) → Q (.ref b) H2) → td σ H1 Q) (hz : kvs.length ≤ 40000) (hw : ∀ x, wipe ((wipe σ vs).set j (some x)) vs = wipe σ vs)
    (ht : ∀ (i : Nat) (k : Key) (z : V) H1, Ex H H1 → kvs[i]? = some (k, z) → EvT t ((wipe σ vs).set j (some (kV k))) H1 (f i)) (he : ∀ (i : Nat) (k : Key) (z : V) H1, Ex H H1 → kvs[i]? = some (k, z) → f i = true → Ev te ((wipe σ vs).set j (some (kV k))) H1 (v i)) :
    EvL (tLc (iKeysF td) (gName j) t te vs) σ H (Evl.given kvs.length f v) := fun H0 e Q q => h H0 e _ fun b H1 nb e1 hb => ⟨b, kvs, rfl, hb, fun o Dl hD => by
  have eF : Ex H0 (upd H1 b (.frz o (.dK kvs))) := Evl.Ex.mut e1 nb
  have hF : (upd H1 b (.frz o (.dK kvs))) b = some (.frz o (.dK kvs)) := upd_same
  generalize upd H1 b (.frz o (.dK kvs)) = HF at eF hF hD ⊢
  refine lc_it walk_keys (fun i H' => Evl.Cw HF f v Dl i H') ⟨hD, Evl.Ex.new hD, upd_same⟩ (fun i H' _ p => p.2.1 _ _ hF) ?_ (fun H' p => q Dl H' (fresh_back eF p.1) (eF.trans p.2.1) p.2.2)
  rintro i x H' H'' hi p ⟨rfl, k, z, hk, rfl⟩
  refine ⟨hw _, ?_⟩
  exact Evl.cw_turn p (by omega) (ht i k z HF (e.trans eF) hk) (fun hf => he i k z HF (e.trans eF) hk hf)⟩
theorem given_nat {E : List Ent} {u : Nat} {f : Nat → Bool} {v : Nat → V} {n : Nat} (hn : E.length = n) (hf : ∀ (i : Nat) (e : Ent), E[i]? = some e → f i = !decide (V.int (e.1 : Int) = V.int (u : Int))) (hv : ∀ (i : Nat) (e : Ent), E[i]? = some e → v i = V.int (e.1 : Int)) :
    Evl.given n f v = natL ((E.filter fun e => !decide (V.int (e.1 : Int) = V.int (u : Int))).map (·.1)) := by
  have all : ∀ m, m ≤ E.length → Evl.given m f v = natL (((E.take m).filter fun e => !decide (V.int (e.1 : Int) = V.int (u : Int))).map (·.1)) := by
    intro m
    induction m with
    | zero => intro _; rfl
    | succ m ih =>
      intro hm
      obtain ⟨e, he⟩ : ∃ e, E[m]? = some e := ⟨_, List.getElem?_eq_getElem (by omega)⟩
      have ih := ih (by omega)
      have et : E.take (m + 1) = E.take m ++ [e] := by
        rw [List.take_add_one, he]
        rfl
      rw [et, List.filter_append, List.map_append]
      have hfe := hf _ _ he
      cases c : f m with
      | true =>
        rw [c] at hfe
        rw [Evl.given_yes c, ih, hv _ _ he, List.filter_cons, if_pos hfe.symm]
        unfold natL
        rw [List.map_append]
        rfl
      | false =>
        rw [c] at hfe
        rw [Evl.given_no c, ih, List.filter_cons, if_neg (by rw [← hfe]; exact Bool.false_ne_true), List.filter_nil, List.map_nil, List.append_nil]
  have := all n (by omega)
  rw [List.take_of_length_le (by omega)] at this
  exact this
theorem in_given {n : Nat} {g : Nat → Bool} : inV (V.bl true) (Evl.given n (fun _ => true) fun i => V.bl (g i)) = (List.range n).any g := by
  unfold inV Evl.given
  rw [List.any_map, List.filter_eq_self.mpr (fun _ _ => rfl)]
  congr 1
  funext i
  show (g i == true) = g i
  cases g i <;> rfl
theorem any_at {os : List Nat} {g : Nat → Bool} : (List.range os.length).any (fun i => g (os.getD i 0)) = os.any g := by
  induction os with
  | nil => rfl
  | cons x r ih =>
    rw [List.length_cons, List.range_succ_eq_map, List.any_cons, List.any_cons, List.any_map, ← ih]
    rfl
theorem inLoop_eq {F : Nat → List Ent} {u : Nat} : (((F u).filter fun e => !decide (V.int (e.1 : Int) = V.int (u : Int))).map (·.1)).any (fun o => hasE (F o) u) = inLoop F u := by
  unfold inLoop
  rw [List.any_map, List.any_filter]
  rfl
theorem flat_bl {n : Nat} {f : Nat → Bool} {g : Nat → Bool} : (Evl.given n f fun i => V.bl (g i)).all flatV = true := by
  rw [List.all_eq_true]
  intro x hx
  obtain ⟨o, _, rfl⟩ := List.mem_map.mp hx
  rfl
section
variable {P : Program} {w : World} {K : PySem.W.Frag} {mg : Str → Option Value} {base : Heap}
theorem rgV_nat {n : Nat} : rgV 0 (n : Int) = natL (List.range n) := by
  unfold rgV natL
  rw [show ((n : Int) - 0).toNat = n by omega]
  exact List.map_congr_left fun i _ => by rw [Int.zero_add]
def spLaw (K : PySem.W.Frag) : Sp := fun vs H Q _ => ∃ (a : Addr) (ns : List Int), vs = [.ref a] ∧ SqL K H a (ns.map V.int) ∧ ∀ H', Q (.bl true) H'
theorem ok_law (T : TLaw K w.params mg) : OkG P w K mg base 10 "law" ["script"] (spLaw K) := by
  have G__law_open : Ok P w K mg base CX0 1 "_law_open" ["script"] (spOpen K) := ok_open T.toTPen
  have G__law_w_program : Ok P w K mg base CX0 6 "_law_w_program" ["pen", "most", "longest_body"] spDraw := ok_prog T.toTDraw
  have G_reach : Ok P w K mg base CX0 8 "reach" ["program", "unit"] spReach := ok_reach T.toTReach
  have G_loops : Ok P w K mg base CX0 8 "loops" ["program"] spLoops := ok_loops T.toTReach
  have G__law_w_steps : Ok P w K mg base CX0 2 "_law_w_steps" ["program", "unit"] spSteps := ok_steps T
  have G__law_w_chain_right : OkG P w K mg base 9 "_law_w_chain_right" ["program", "first", "other"] spRight := ok_right T
  refine T.d_law.okG sc_law bi_law (fun vs H Q E h => ?_) (fun cdv A outer s H f vs Q E hr hG h => ?_)
  · obtain ⟨a, ns, rfl, _⟩ := h
    rfl
  · obtain ⟨a, ns, rfl, hS, q⟩ := h
    refine ⟨_, (pss_cons (ps_set (i := 1) sc_law.nd rfl (Or.inl rfl) (pe_callO G__law_open (hr.mono (by decide)) (pa_cons (pv 0) pa_nil)))
    (pss_cons (ps_for PassesOwn.never rfl (pi_range1 (by rfl) T.b_range (pa_cons pe_int pa_nil)) (pg_name (i := 2) sc_law.nd rfl (Or.inl rfl)) (pss_cons (ps_set (i := 3) sc_law.nd rfl (Or.inr rfl) (pe_callO G__law_w_program (hr.mono (by decide)) (pa_cons (pv 1) (pa_cons pe_int (pa_cons pe_int pa_nil)))))
    (pss_cons (ps_par (i := 4) (j := 5) (by rfl) sc_law.nd rfl rfl (by decide) rfl rfl (pa_cons (pe_callB (call_repr hG (hu64 hr)) (by rfl) T.b_repr (by decide +kernel) (pa_cons (pv 3) pa_nil)) (pa_cons (pe_listRg rfl (by rfl) T.b_list (prg_1 (by rfl) T.b_range (pe_callB call_len_seq (by rfl) T.b_len (by decide +kernel) (pa_cons (pe_ix ix_tup (pv 3) pe_int (fun _ _ => rfl)) pa_nil)))) pa_nil)) (by rfl))
    (pss_cons (ps_for PassesOwn.never rfl (pi_list (pv 5)) (pg_name (i := 6) sc_law.nd rfl (Or.inr rfl)) (pss_cons (ps_if (pt_cmpR op_ne (pe_callB (call_repr hG (hu64 hr)) (by rfl) T.b_repr (by decide +kernel) (pa_cons (pe_callO G_reach (hr.mono (by decide)) (pa_cons (pv 3) (pa_cons (pv 6) pa_nil))) pa_nil)) (pe_callB (call_repr hG (hu64 hr)) (by rfl) T.b_repr (by decide +kernel) (pa_cons (pe_callTy call_tuple_of (by rfl) T.b_tuple (by decide +kernel) (pa_cons (pe_callB (call_sortedDI rfl) (by rfl) T.b_sorted (by decide +kernel) (pa_cons (pe_callO G__law_w_steps (hr.mono (by decide)) (pa_cons (pv 3) (pa_cons (pv 6) pa_nil))) pa_nil)) pa_nil)) pa_nil)) (nomark _)) (pss_one (ps_ret pe_bl)) pss_nil)
    (pss_one (ps_if (pt_cmpR op_in_seq pe_bl (pe_lc (own := [("other", 7)]) rfl sc_law.nd (pi_list (pv 5)) (blkOk_by (N := N_law) (sc := defScope s_law) (by decide +kernel)) (fun _ _ _ _ _ => (pg_name (i := 7) sc_law.nd rfl (Or.inl rfl))) (fun _ _ _ _ _ => pts_nil) (fun _ _ _ _ _ => (pe_callG G__law_w_chain_right (hr.mono (by decide)) hG (pa_cons (pv 3) (pa_cons (pv 6) (pa_cons (pv 7) pa_nil)))))) (by rfl)) (pss_one (ps_ret pe_bl)) pss_nil))))
    (pss_cons (ps_set (i := 8) sc_law.nd rfl (Or.inl rfl) (pe_lst pa_nil))
    (pss_cons (ps_for PassesOwn.never rfl (pi_list (pv 5)) (pg_name (i := 6) sc_law.nd rfl (Or.inr rfl)) (pss_cons (ps_setLc (i := 9) (own := [("other", 7)]) (g := gName 7) rfl sc_law.nd rfl rfl (sw_true rfl rfl rfl (by decide +kernel)) (pi_keysF (pe_callO G__law_w_steps (hr.mono (by decide)) (pa_cons (pv 3) (pa_cons (pv 6) pa_nil)))) (blkOk_by (N := N_law) (sc := defScope s_law) (by decide +kernel)) (fun _ _ _ _ _ => (pg_name (i := 7) sc_law.nd rfl (Or.inl rfl))) (fun _ _ _ _ _ => (pts_one (pt_cmpR op_ne (pv 7) (pv 6) (nomark _)))) (fun _ _ _ _ _ => (pv 7)))
    (pss_one (ps_if (pt_cmpR op_in_seq pe_bl (pe_lc (own := [("other", 7)]) rfl sc_law.nd (pi_list (pv 9)) (blkOk_by (N := N_law) (sc := defScope s_law) (by decide +kernel)) (fun _ _ _ _ _ => (pg_name (i := 7) sc_law.nd rfl (Or.inl rfl))) (fun _ _ _ _ _ => pts_nil) (fun _ _ _ _ _ => (pe_cmp (pc_din (hu_of hr) (pv 6) (pe_callO G__law_w_steps (hr.mono (by decide)) (pa_cons (pv 3) (pa_cons (pv 7) pa_nil))))))) (by rfl)) (pss_one (ps_expr (pe_bm PySem.F.plainAttrs_list PySem.F.slot_list_append PySem.F.type_list_append mt_append (pv 8) (pa_cons (pv 6) pa_nil)))) pss_nil))))
    (pss_one (ps_if (PW.pt (pw_or (pt_cmpR op_ne (pe_callB (call_repr hG (hu64 hr)) (by rfl) T.b_repr (by decide +kernel) (pa_cons (pe_callO G_loops (hr.mono (by decide)) (pa_cons (pv 3) pa_nil)) pa_nil)) (pe_callB (call_repr hG (hu64 hr)) (by rfl) T.b_repr (by decide +kernel) (pa_cons (pe_callTy call_tuple_of (by rfl) T.b_tuple (by decide +kernel) (pa_cons (pv 8) pa_nil)) pa_nil)) (nomark _)) (pw_or1 (pt_cmpR op_ne (pe_callB (call_repr hG (hu64 hr)) (by rfl) T.b_repr (by decide +kernel) (pa_cons (pv 3) pa_nil)) (pv 4) (nomark _))))) (pss_one (ps_ret pe_bl)) pss_nil))))))))
    (pss_one (ps_ret pe_bl)))), ?_⟩
    refine ⟨_, rfl, a, ns, rfl, hS, fun H1 p s1 np pen => ?_⟩
    show tSeq _ _ _ _ _
    refine Evl.q_forR1 (ta := tCons (tC (.int 4)) tNil) (n := 4) (ea_cons ev_c ea_nil) ⟨by decide, by decide⟩ (fun i σ H' => ∃ (y2 y3 y4 y5 y6 y7 y8 y9 : Option V), σ = [some (.ref a), some (.ref p), y2, y3, y4, y5, y6, y7, y8, y9] ∧ Pen H' p (10000 * i)) (fun H2 x2 => ⟨_, _, _, _, _, _, _, _, rfl, (pen.ext x2).mono (by omega)⟩) ?_ (fun σ' H' _ => q H')
    rintro i σ' H' hi ⟨y2, y3, y4, y5, y6, y7, y8, y9, rfl, pi⟩
    refine ⟨_, rfl, p, _, 6, 3, rfl, pi, by omega, by decide, by decide, by decide, by decide, fun H2 v d c2 dd nl ok => ?_⟩
    -- the program's parts
    have rp := rep_prog ok
    have n6 := numU_le ok
    obtain ⟨us, fns, ed, _, _, _⟩ := prog_view ok
    obtain ⟨ap, xs, rfl, hap, hds⟩ : ∃ ap xs, v = .ref ap ∧ H2 ap = some (.tup xs) ∧ DaAll H2 xs [.tuple us, .tuple fns] := by
      rw [ed] at dd
      exact Da.tupl dd
    cases hds with
    | @cons v1 r1 _ _ g1 hds =>
    obtain ⟨a1, xs1, rfl, ha1, hds1⟩ := Da.tupl g1
    have nU : xs1.length = numU d := by rw [ed]; exact hds1.len
    have n1 : 1 ≤ numU d := by
      obtain ⟨us', fns', ed', h1, _, _⟩ := prog_view ok
      rw [ed']
      exact h1
    have showP : ∀ {H3 : Hp}, Ex H2 H3 → Dp K H3 (.ref ap) d := fun x => (dd.ex x).dp rp.2.1
    refine ⟨_, rfl, ap, d, rfl, showP (Evl.Ex.refl _), rp.1, rp.2.1, rp.2.2.1, rp.2.2.2, _, rfl, ap, _, 0, _, rfl, rfl, st_of hap, atI_nat (j := 0) rfl, a1, xs1, rfl, .inr (st_of ha1), (xs1.length : Int), rfl, .of_le (by omega) (by omega) (by omega) (by omega), fun ua nua => ?_⟩
    rw [nU, rgV_nat]
    refine ⟨_, _, rfl, ?_⟩
    have x3 := Evl.Ex.new nua (o := .lst (natL (List.range (numU d))))
    have hua : (upd H2 ua (.lst (natL (List.range (numU d))))) ua = some (.lst (natL (List.range (numU d)))) := upd_same
    have pen3 := c2.pen.ext x3
    generalize upd H2 ua (.lst (natL (List.range (numU d)))) = H3 at x3 hua pen3 ⊢
    have dd3 := dd.ex x3
    have rng : ∀ {i : Nat} {x : V}, (natL (List.range (numU d)))[i]? = some x → x = .int (i : Int) ∧ i < numU d := fun {i x} h => by
      obtain ⟨o, ho, rfl⟩ := natL_at h
      obtain ⟨l, e⟩ := List.getElem?_eq_some_iff.mp ho
      rw [List.getElem_range] at e
      rw [List.length_range] at l
      subst e
      exact ⟨rfl, l⟩
    have lenU : (natL (List.range (numU d))).length = numU d := by unfold natL; rw [List.length_map, List.length_range]
    have good := fun {u : Nat} (hu : u < numU d) => bfs_good ok hu
    dsimp only
    have hx3 := fun {H' : Hp} (x : Ex H3 H') => dd3.ex x
    have RY : ∀ {u : Nat} {ys : List Int}, u < numU d → ys.Perm (keysI (bfs (nxP d) u (numU d))) → RepOk (.tuple (intsZ ys)) := fun {u ys} hu hy => by
      have g := good hu
      have gl := g.len
      refine rep_ints ?_ fun z hz => ?_
      · rw [hy.length_eq]
        unfold keysI
        rw [List.length_map]
        omega
      · have hz := hy.mem_iff.mp hz
        obtain ⟨e, he, rfl⟩ := List.mem_map.mp hz
        have := g.lt e he
        omega
    have kl : ∀ {u : Nat}, u < numU d → (keysI (bfs (nxP d) u (numU d))).length < 64 := fun {u} hu => by
      unfold keysI
      rw [List.length_map]
      have := (good hu).len
      omega
    refine Evl.q_forLn (a := ua) (xs := natL (List.range (numU d))) (ev_var rfl) (.inl (.inl hua)) (fun k σ H' => ∃ (y6 : Option V), σ = [some (.ref a), some (.ref p), some (.int (i : Int)), some (.ref ap), some (.str d.shown), some (.ref ua), y6, y7, y8, y9] ∧ Ex H3 H') (fun H4 x4 => ⟨_, rfl, x4⟩) (fun k σ' H' _ ⟨_, _, x⟩ => .inl (.inl (x _ _ hua))) ?_ ?_
    · rintro u x σ' H4 hx ⟨y6, rfl, x4⟩
      obtain ⟨rfl, hu⟩ := rng hx
      refine q_when (b := false) ?_ (fun z => by cases z) (fun _ H5 x5 => ?_)
      · intro H5 e Q' q'
        refine ⟨_, rfl, _, rfl, _, d, u, rfl, hx3 (x4.trans e), ok, hu, fun p2 H6 ys hy hs np2 x6 hp2 => ?_⟩
        obtain ⟨r1, r2, r3, r4⟩ := RY hu hy
        refine ⟨p2, .tuple (intsZ ys), rfl, .tup (st_of hp2) (dp_ints ys), r1, r2, r3, r4, ?_⟩
        refine ⟨_, rfl, _, rfl, _, d, u, rfl, hx3 ((x4.trans e).trans x6), ok, hu, fun b H7 nb x7 hb => ?_⟩
        refine ⟨b, _, keysI (bfs (nxP d) u (numU d)), rfl, .inl hb, kvsG_keys, kl hu, fun ys2 p3 hy2 hs2 np3 => ⟨p3, _, rfl, .inl ⟨.inl (.inl upd_same), fun l nl => ?_⟩⟩⟩
        obtain rfl := sorted_one hy2 hy hs2 hs
        refine ⟨l, .tuple (intsZ ys2), rfl, .tup (st_of upd_same) (dp_ints ys2), r1, r2, r3, r4, rfl, _, rfl, ?_⟩
        rw [show ∀ x : V, (!decide (x = x)) = false from fun x => by simp]
        exact q' _ (((x6.trans x7).trans (Evl.Ex.new np3)).trans (Evl.Ex.new nl))
      · have x45 := x4.trans x5
        have elB := Evl.el_lcL (K := K) (te := tCall spRight [] E0 (tCons (tVar 3) (tCons (tVar 6) (tCons (tVar 7) tNil)))) (t := tYes) (σ := [some (.ref a), some (.ref p), some (.int (i : Int)), some (.ref ap), some (.str d.shown), some (.ref ua), some (.int (u : Int)), y7, y8, y9]) (H := H5) (tl := tVar 5) (j := 7) (vs := [7]) (fun _ => true) (fun _ => .bl true)
          (ev_var rfl) (.inl (.inl (x45 _ _ hua))) (by rw [lenU]; omega) (fun _ => rfl) (fun k x H6 x6 hx => fun H7 e Q' q' => q' H7 (Evl.Ex.refl _)) (fun k x H6 x6 hx _ => by
            obtain ⟨rfl, hk⟩ := rng hx
            exact fun H7 e Q' q' => ⟨_, rfl, _, rfl, _, rfl, _, d, u, k, rfl, hx3 ((x45.trans x6).trans e), ok, hu, hk, q'⟩)
        refine Evl.s_when (b := false) (Evl.et_is (et_test (Evl.ev_opL ev_c elB fun p2 H6 hp2 _ => Evl.rv_inL (.inl (.inl hp2)) rfl (flat_true _))) (by rw [if_neg (by decide), no_false])) (fun z => by cases z) (fun _ H6 x6 => ⟨_, rfl, x45.trans x6⟩)
    · rintro σ' H4 ⟨y6, rfl, x4⟩
      -- due = []
      refine ⟨sz_of (by show 0 ≤ 100000; decide), fun dl ndl => ?_⟩
      have hdl : (upd H4 dl (.lst [])) dl = some (.lst (natL ((List.range 0).filter fun u => inLoop (fun u => bfs (nxP d) u (numU d)) u))) := upd_same
      have xd := Evl.Ex.new ndl (o := .lst [])
      have hua4 : (upd H4 dl (.lst [])) ua = some (.lst (natL (List.range (numU d)))) := xd _ _ (x4 _ _ hua)
      have dlua : dl ≠ ua := fun z => ne_of_none (x4 _ _ hua) ndl z.symm
      generalize upd H4 dl (.lst []) = H5 at hdl xd hua4 ⊢
      dsimp only
      refine Evl.q_forLn (a := ua) (xs := natL (List.range (numU d))) (ev_var rfl) (.inl (.inl hua4)) (fun k σ H' => ∃ (y6 y9 : Option V), σ = [some (.ref a), some (.ref p), some (.int (i : Int)), some (.ref ap), some (.str d.shown), some (.ref ua), y6, y7, some (.ref dl), y9] ∧ Ex H4 H' ∧
          H' dl = some (.lst (natL ((List.range k).filter fun u => inLoop (fun u => bfs (nxP d) u (numU d)) u)))) (fun H6 x6 => ⟨_, _, rfl, xd.trans x6, x6 _ _ hdl⟩) (fun k σ' H' _ ⟨_, _, _, x, _⟩ => .inl (.inl (x _ _ (x4 _ _ hua)))) ?_ ?_
      · rintro u x σ' H6 hx ⟨y6, y9, rfl, x6, hdl6⟩
        obtain ⟨rfl, hu⟩ := rng hx
        have g := good hu
        have gl := g.len
        have x46 := x4.trans x6
        have kvl : (kvsG gD (bfs (nxP d) u (numU d))).length = (bfs (nxP d) u (numU d)).length := by unfold kvsG; rw [List.length_map]
        have kvat : ∀ {i : Nat} {k : Key} {z : V}, (kvsG gD (bfs (nxP d) u (numU d)))[i]? = some (k, z) → ∃ e, (bfs (nxP d) u (numU d))[i]? = some e ∧ k = .inl (e.1 : Int) := fun h => by
          unfold kvsG at h
          rw [List.getElem?_map] at h
          obtain ⟨e, he, h⟩ := Option.map_eq_some_iff.mp h
          cases h
          exact ⟨e, he, rfl⟩
        have el := el_lcKF (td := tCall spSteps [] E0 (tCons (tVar 3) (tCons (tVar 6) tNil))) (te := tVar 7) (t := tTest (tOp rNe (tVar 7) (tVar 6))) (σ := [some (.ref a), some (.ref p), some (.int (i : Int)), some (.ref ap), some (.str d.shown), some (.ref ua), some (.int (u : Int)), y7, some (.ref dl), y9]) (H := H6) (kvs := kvsG gD (bfs (nxP d) u (numU d))) (j := 7) (vs := [7])
          (fun k => !decide (V.int (((bfs (nxP d) u (numU d)).getD k (0, none, 0)).1 : Int) = V.int (u : Int))) (fun k => .int (((bfs (nxP d) u (numU d)).getD k (0, none, 0)).1 : Int))
          (fun H7 e Q' q' => ⟨_, rfl, _, rfl, _, d, u, rfl, hx3 (x46.trans e), ok, hu, fun b H8 nb x8 hb => q' b H8 nb x8 hb⟩) (by rw [kvl]; omega) (fun _ => rfl)
          (fun k ky z H7 x7 hk => by
            obtain ⟨e, he, rfl⟩ := kvat hk
            intro H8 e8 Q' q'
            refine ⟨_, rfl, _, rfl, rfl, _, rfl, ?_⟩
            rw [getD_at he] at q'
            exact q' H8 (Evl.Ex.refl _))
          (fun k ky z H7 x7 hk _ => by
            obtain ⟨e, he, rfl⟩ := kvat hk
            intro H8 e8 Q' q'
            refine ⟨_, rfl, ?_⟩
            rw [getD_at he] at q'
            exact q' H8 (Evl.Ex.refl _))
        rw [given_nat (E := bfs (nxP d) u (numU d)) (u := u) kvl.symm (fun i e he => by rw [getD_at he]) (fun i e he => by rw [getD_at he])] at el
        refine q_asgL el fun ol H7 nol x7 hol => ?_
        have hin := inLoop_eq (F := fun u => bfs (nxP d) u (numU d)) (u := u)
        have hos : ∀ o ∈ (((bfs (nxP d) u (numU d)).filter fun e => !decide (V.int (e.1 : Int) = V.int (u : Int))).map (·.1)), o < numU d := fun o ho => by
          obtain ⟨e, he, rfl⟩ := List.mem_map.mp ho
          exact g.lt e (List.mem_filter.mp he).1
        have hol6 : (((bfs (nxP d) u (numU d)).filter fun e => !decide (V.int (e.1 : Int) = V.int (u : Int))).map (·.1)).length ≤ 6 := by
          rw [List.length_map]
          have := List.length_filter_le (fun e : Ent => !decide (V.int (e.1 : Int) = V.int (u : Int))) (bfs (nxP d) u (numU d))
          omega
        generalize (((bfs (nxP d) u (numU d)).filter fun e => !decide (V.int (e.1 : Int) = V.int (u : Int))).map (·.1)) = os at hol hin hos hol6
        have nlo : (natL os).length = os.length := by unfold natL; rw [List.length_map]
        have elc := Evl.el_lcL (K := K) (te := tDIn (tVar 6) (tCall spSteps [] E0 (tCons (tVar 3) (tCons (tVar 7) tNil)))) (t := tYes) (σ := [some (.ref a), some (.ref p), some (.int (i : Int)), some (.ref ap), some (.str d.shown), some (.ref ua), some (.int (u : Int)), y7, some (.ref dl), some (.ref ol)]) (H := H7) (tl := tVar 9) (j := 7) (vs := [7]) (xs := natL os) (fun _ => true) (fun k => .bl (hasE (bfs (nxP d) (os.getD k 0) (numU d)) u))
          (ev_var rfl) (.inl (.inl hol)) (by rw [nlo]; omega) (fun _ => rfl) (fun k x H8 x8 hx => fun H9 e Q' q' => q' H9 (Evl.Ex.refl _)) (fun k x H8 x8 hx _ => by
            obtain ⟨o, ho, rfl⟩ := natL_at hx
            intro H9 e Q' q'
            rw [getD_at ho] at q'
            refine ⟨_, rfl, _, rfl, _, rfl, _, d, o, rfl, hx3 (((x46.trans x7).trans x8).trans e), ok, hos o (List.mem_of_getElem? ho), fun b H10 nb x10 hb => ?_⟩
            refine ⟨b, _, rfl, .inl ⟨_, .inl (u : Int), .inl hb, rfl, rfl⟩, ?_⟩
            rw [kvsG_has]
            exact q' H10 x10)
        have hdl7 := x7 _ _ hdl6
        have fl : (natL ((List.range u).filter fun u => inLoop (fun u => bfs (nxP d) u (numU d)) u)).length ≤ 6 := by
          unfold natL
          rw [List.length_map]
          have := List.length_filter_le (fun u => inLoop (fun u => bfs (nxP d) u (numU d)) u) (List.range u)
          rw [List.length_range] at this
          omega
        refine Evl.s_when (b := inLoop (fun u => bfs (nxP d) u (numU d)) u) (Evl.et_is (et_test (Evl.ev_opL ev_c elc fun p2 H8 hp2 _ => Evl.rv_inL (.inl (.inl hp2)) rfl flat_bl)) (by rw [if_neg (by decide), in_given, nlo, any_at (g := fun o => hasE (bfs (nxP d) o (numU d)) u)]; exact hin)) (fun hb H8 x8 => ?_) (fun hb H8 x8 => ?_)
        · have hdl8 := x8 _ _ hdl7
          refine ⟨_, rfl, Or.inl ⟨rfl, _, .inl (.inl hdl8)⟩, _, rfl, dl, _, _, rfl, rfl, hdl8, sz_lt (by omega), ?_⟩
          refine ⟨_, _, rfl, Evl.Ex.mut ((x6.trans x7).trans x8) ndl, ?_⟩
          rw [upd_same, List.range_succ, List.filter_append, List.filter_cons, if_pos hb]
          unfold natL
          rw [List.map_append]
          rfl
        · refine ⟨_, _, rfl, (x6.trans x7).trans x8, ?_⟩
          rw [List.range_succ, List.filter_append, List.filter_cons, if_neg (by rw [hb]; exact Bool.false_ne_true), List.filter_nil, List.append_nil]
          exact x8 _ _ hdl7
      · rintro σ' H6 ⟨y6, y9, rfl, x6, hdl6⟩
        rw [lenU] at hdl6
        have x46 := x4.trans x6
        have RL : RepOk (.tuple (intsD (loopL d))) := rep_tup (by
          have := List.length_filter_le (fun u => inLoop (fun u => bfs (nxP d) u (numU d)) u) (List.range (numU d))
          rw [List.length_range] at this
          show ((List.range (numU d)).filter fun u => inLoop (fun u => bfs (nxP d) u (numU d)) u).length ≤ 1000
          omega) fun o ho => by
            have := List.mem_range.mp (List.mem_filter.mp ho).1
            omega
        obtain ⟨r1, r2, r3, r4⟩ := RL
        refine Evl.s_when (b := false) ?_ (fun z => by cases z) (fun _ H7 x7 => ⟨_, _, _, _, _, _, _, _, rfl, (pen3.ext (x46.trans x7)).mono (by omega)⟩)
        intro H7 e Q' q'
        refine ⟨_, rfl, _, d, rfl, hx3 (x46.trans e), ok, fun p2 H8 np2 x8 hp2 => ?_⟩
        refine ⟨p2, .tuple (intsD (loopL d)), rfl, .tup (st_of hp2) (dp_nat _), r1, r2, r3, r4, ?_⟩
        refine ⟨_, rfl, dl, _, rfl, .inl ⟨.inl (.inl (x8 _ _ (e _ _ hdl6))), fun l nl => ?_⟩⟩
        refine ⟨l, .tuple (intsD (loopL d)), rfl, .tup (st_of upd_same) (dp_nat _), r1, r2, r3, r4, rfl, _, rfl, ite2 (fun z => absurd z (by simp)) (fun _ => ?_)⟩
        have x9 := x8.trans (Evl.Ex.new nl (o := .tup (natL (loopL d))))
        refine ⟨_, rfl, ap, d, rfl, showP (x3.trans ((x46.trans e).trans x9)), rp.1, rp.2.1, rp.2.2.1, rp.2.2.2, _, rfl, rfl, _, rfl, ?_⟩
        rw [show ∀ x : V, (!decide (x = x)) = false from fun x => by simp]
        exact q' _ x9
end
end FW
set_option Elab.async false
set_option linter.all false
set_option maxRecDepth 100000
set_option maxHeartbeats 4000000
namespace FW
open PySem PySem.Spec PyProof.Rows L2
section
theorem const_of {K : PySem.W.Frag} {h : Heap} {mg : Str → Option Value} {x : Str} {i : Int} (X : K.In h) (G : h.Ns mainGlobals mg) (c : ∃ t, PySem.W.nsIn K mainGlobals x = some (some (.int i t))) : ∃ t, mg x = some (.int i t) := by
  obtain ⟨t, c⟩ := c
  exact ⟨t, PySem.W.mg_of X G c⟩
theorem all_mk {P : Program} {w : World} {K : PySem.W.Frag} {h : Heap} {mg : Str → Option Value} {fa : Addr} (X : K.In h) (G : h.Ns mainGlobals mg) (hfa : mg "law" = some (.ref fa))
    (d_is_integer : DfAt K "is_integer" s_is_integer)
    (d_is_within : DfAt K "is_within" s_is_within)
    (d_is_index : DfAt K "is_index" s_is_index)
    (d_is_tuple : DfAt K "is_tuple" s_is_tuple)
    (d_kinds : DfAt K "_kinds" s__kinds)
    (d_shared_limits : DfAt K "_shared_limits" s__shared_limits)
    (d_is_instruction : DfAt K "_is_instruction" s__is_instruction)
    (d_is_initializer : DfAt K "_is_initializer" s__is_initializer)
    (d_is_code : DfAt K "_is_code" s__is_code)
    (d_is_unit : DfAt K "_is_unit" s__is_unit)
    (d_are_units : DfAt K "_are_units" s__are_units)
    (d_are_functions : DfAt K "_are_functions" s__are_functions)
    (d_is_program : DfAt K "is_program" s_is_program)
    (d_need_program : DfAt K "need_program" s_need_program)
    (d_need_unit : DfAt K "need_unit" s_need_unit)
    (d_accessed_unit : DfAt K "accessed_unit" s_accessed_unit)
    (d_acc : DfAt K "_accessed_in_waking" s__accessed_in_waking)
    (d_befores : DfAt K "_befores" s__befores)
    (d_inloop : DfAt K "_is_in_loop" s__is_in_loop)
    (d_reach : DfAt K "reach" s_reach)
    (d_chain : DfAt K "chain" s_chain)
    (d_loops : DfAt K "loops" s_loops)
    (d_open : DfAt K "_law_open" s__law_open)
    (d_spread : DfAt K "_law_spread" s__law_spread)
    (d_take : DfAt K "_law_take" s__law_take)
    (d_pick : DfAt K "_law_w_pick" s__law_w_pick)
    (d_straight : DfAt K "_law_w_straight" s__law_w_straight)
    (d_line : DfAt K "_law_w_line" s__law_w_line)
    (d_prog : DfAt K "_law_w_program" s__law_w_program)
    (d_next : DfAt K "_law_w_next" s__law_w_next)
    (d_steps : DfAt K "_law_w_steps" s__law_w_steps)
    (d_right : DfAt K "_law_w_chain_right" s__law_w_chain_right)
    (d_law : DfAt K "law" s_law)
    (b_isinstance : PySem.W.nsIn K mainGlobals "isinstance" = some none)
    (b_int : PySem.W.nsIn K mainGlobals "int" = some none)
    (b_bool : PySem.W.nsIn K mainGlobals "bool" = some none)
    (b_str : PySem.W.nsIn K mainGlobals "str" = some none)
    (b_tuple : PySem.W.nsIn K mainGlobals "tuple" = some none)
    (b_len : PySem.W.nsIn K mainGlobals "len" = some none)
    (b_enumerate : PySem.W.nsIn K mainGlobals "enumerate" = some none)
    (b_all : PySem.W.nsIn K mainGlobals "all" = some none)
    (b_range : PySem.W.nsIn K mainGlobals "range" = some none)
    (b_any : PySem.W.nsIn K mainGlobals "any" = some none)
    (b_sorted : PySem.W.nsIn K mainGlobals "sorted" = some none)
    (b_list : PySem.W.nsIn K mainGlobals "list" = some none)
    (b_repr : PySem.W.nsIn K mainGlobals "repr" = some none)
    (c_MOST_NUMBER : ∃ t, PySem.W.nsIn K mainGlobals "MOST_NUMBER" = some (some (.int 65535 t)))
    (c_MOST_UNITS : ∃ t, PySem.W.nsIn K mainGlobals "MOST_UNITS" = some (some (.int 6 t)))
    (c_MOST_FIELDS : ∃ t, PySem.W.nsIn K mainGlobals "MOST_FIELDS" = some (some (.int 3 t)))
    (c_MOST_FUNCTIONS : ∃ t, PySem.W.nsIn K mainGlobals "MOST_FUNCTIONS" = some (some (.int 4 t)))
    (c_MOST_IN_INITIALIZER : ∃ t, PySem.W.nsIn K mainGlobals "MOST_IN_INITIALIZER" = some (some (.int 6 t)))
    (c_MOST_IN_FUNCTION : ∃ t, PySem.W.nsIn K mainGlobals "MOST_IN_FUNCTION" = some (some (.int 8 t)))
    (c_LAST_SLOT : ∃ t, PySem.W.nsIn K mainGlobals "LAST_SLOT" = some (some (.int 2 t)))
    (f_I : KFAt K w.params "FORMS" formsI)
    (f_F : KFAt K w.params "FORMS_IN_FUNCTIONS" formsF) :
    ∃ fd : FuncData, (∀ (s : Shared) (v : Value), BindsTo s fd ⟨[v], []⟩ [("script", v)]) ∧ ∀ base : Heap, K.In base → base.Ns mainGlobals mg → FnG P w K mg base 10 fa fd ["script"] (spLaw K) := by
  have TP : TProg K w.params mg := { b_isinstance := PySem.W.mg_none_of X G b_isinstance, b_int := PySem.W.mg_none_of X G b_int, b_bool := PySem.W.mg_none_of X G b_bool, b_str := PySem.W.mg_none_of X G b_str, b_tuple := PySem.W.mg_none_of X G b_tuple, b_len := PySem.W.mg_none_of X G b_len, b_enumerate := PySem.W.mg_none_of X G b_enumerate, b_all := PySem.W.mg_none_of X G b_all, c_MOST_NUMBER := const_of X G c_MOST_NUMBER, c_MOST_UNITS := const_of X G c_MOST_UNITS, c_MOST_FIELDS := const_of X G c_MOST_FIELDS, c_MOST_FUNCTIONS := const_of X G c_MOST_FUNCTIONS, c_MOST_IN_INITIALIZER := const_of X G c_MOST_IN_INITIALIZER, c_MOST_IN_FUNCTION := const_of X G c_MOST_IN_FUNCTION, c_LAST_SLOT := const_of X G c_LAST_SLOT, f_I := f_I.kf X G, f_F := f_F.kf X G, d_is_integer := d_is_integer.df X G, d_is_within := d_is_within.df X G, d_is_index := d_is_index.df X G, d_is_tuple := d_is_tuple.df X G, d_kinds := d_kinds.df X G, d_shared_limits := d_shared_limits.df X G, d_is_instruction := d_is_instruction.df X G, d_is_initializer := d_is_initializer.df X G, d_is_code := d_is_code.df X G, d_is_unit := d_is_unit.df X G, d_are_units := d_are_units.df X G, d_are_functions := d_are_functions.df X G, d_is_program := d_is_program.df X G }
  have TR : TReach K w.params mg := { TP with b_range := PySem.W.mg_none_of X G b_range, b_any := PySem.W.mg_none_of X G b_any, b_sorted := PySem.W.mg_none_of X G b_sorted, d_need_program := d_need_program.df X G, d_need_unit := d_need_unit.df X G, d_accessed_unit := d_accessed_unit.df X G, d_acc := d_acc.df X G, d_befores := d_befores.df X G, d_inloop := d_inloop.df X G, d_reach := d_reach.df X G, d_chain := d_chain.df X G, d_loops := d_loops.df X G }
  have TN : TPen K mg := { b_list := PySem.W.mg_none_of X G b_list, b_enumerate := PySem.W.mg_none_of X G b_enumerate, b_len := PySem.W.mg_none_of X G b_len, d_open := d_open.df X G, d_spread := d_spread.df X G, d_take := d_take.df X G }
  have TD : TDraw K mg := { TN with b_range := PySem.W.mg_none_of X G b_range, b_tuple := PySem.W.mg_none_of X G b_tuple, d_pick := d_pick.df X G, d_straight := d_straight.df X G, d_line := d_line.df X G, d_prog := d_prog.df X G }
  have T : TLaw K w.params mg := { TR, TD with b_repr := PySem.W.mg_none_of X G b_repr, d_next := d_next.df X G, d_steps := d_steps.df X G, d_right := d_right.df X G, d_law := d_law.df X G }
  exact end_lawG (d_law.df X G) bi_law hfa fun base _ _ => ok_law T
end
end FW
open PySem PySem.W PyProof.Rows
set_option maxRecDepth 100000 in
set_option maxHeartbeats 0 in
theorem PySem.Challenge.cw_firstwake_k21_what_units_reach_holds : PySem.Challenge.rw_firstwake_k21_what_units_reach.Holds := by
  w_on; o_law; k_head; (case hw => w_witness2)
  k_fill
  refine FW.walk_ofG (l := PySem.Challenge.rw_firstwake_k21_what_units_reach) (n := 63) (k := 10) (x := "script") (sp := fun w => FW.spLaw _) rfl (by decide) rfl ⟨rfl, by decide, by decide⟩ (fun w h Y => PySem.W.kIn_of Y) ?F (fun _ _ a ns _ _ hS => ⟨a, ns, rfl, hS, fun _ => rfl⟩)
  case F =>
    intro w mg fa h KX G hmg
    refine' FW.all_mk KX G hmg ?d_is_integer ?d_is_within ?d_is_index ?d_is_tuple ?d_kinds ?d_shared_limits ?d_is_instruction ?d_is_initializer ?d_is_code ?d_is_unit ?d_are_units ?d_are_functions ?d_is_program ?d_need_program ?d_need_unit ?d_accessed_unit ?d_acc ?d_befores ?d_inloop ?d_reach ?d_chain ?d_loops ?d_open ?d_spread ?d_take ?d_pick ?d_straight ?d_line ?d_prog ?d_next ?d_steps ?d_right ?d_law ?b_isinstance ?b_int ?b_bool ?b_str ?b_tuple ?b_len ?b_enumerate ?b_all ?b_range ?b_any ?b_sorted ?b_list ?b_repr ?c_MOST_NUMBER ?c_MOST_UNITS ?c_MOST_FIELDS ?c_MOST_FUNCTIONS ?c_MOST_IN_INITIALIZER ?c_MOST_IN_FUNCTION ?c_LAST_SLOT ?f_I ?f_F
    case d_is_integer => refine' FW.DfAt.mk ?a ?l ?c ?k; (case a => k_is); (case l => k_is); (case c => k_is); (case k => k_is)
    case d_is_within => refine' FW.DfAt.mk ?a ?l ?c ?k; (case a => k_is); (case l => k_is); (case c => k_is); (case k => k_is)
    case d_is_index => refine' FW.DfAt.mk ?a ?l ?c ?k; (case a => k_is); (case l => k_is); (case c => k_is); (case k => k_is)
    case d_is_tuple => refine' FW.DfAt.mk ?a ?l ?c ?k; (case a => k_is); (case l => k_is); (case c => k_is); (case k => k_is)
    case d_kinds => refine' FW.DfAt.mk ?a ?l ?c ?k; (case a => k_is); (case l => k_is); (case c => k_is); (case k => k_is)
    case d_shared_limits => refine' FW.DfAt.mk ?a ?l ?c ?k; (case a => k_is); (case l => k_is); (case c => k_is); (case k => k_is)
    case d_is_instruction => refine' FW.DfAt.mk ?a ?l ?c ?k; (case a => k_is); (case l => k_is); (case c => k_is); (case k => k_is)
    case d_is_initializer => refine' FW.DfAt.mk ?a ?l ?c ?k; (case a => k_is); (case l => k_is); (case c => k_is); (case k => k_is)
    case d_is_code => refine' FW.DfAt.mk ?a ?l ?c ?k; (case a => k_is); (case l => k_is); (case c => k_is); (case k => k_is)
    case d_is_unit => refine' FW.DfAt.mk ?a ?l ?c ?k; (case a => k_is); (case l => k_is); (case c => k_is); (case k => k_is)
    case d_are_units => refine' FW.DfAt.mk ?a ?l ?c ?k; (case a => k_is); (case l => k_is); (case c => k_is); (case k => k_is)
    case d_are_functions => refine' FW.DfAt.mk ?a ?l ?c ?k; (case a => k_is); (case l => k_is); (case c => k_is); (case k => k_is)
    case d_is_program => refine' FW.DfAt.mk ?a ?l ?c ?k; (case a => k_is); (case l => k_is); (case c => k_is); (case k => k_is)
    case d_need_program => refine' FW.DfAt.mk ?a ?l ?c ?k; (case a => k_is); (case l => k_is); (case c => k_is); (case k => k_is)
    case d_need_unit => refine' FW.DfAt.mk ?a ?l ?c ?k; (case a => k_is); (case l => k_is); (case c => k_is); (case k => k_is)
    case d_accessed_unit => refine' FW.DfAt.mk ?a ?l ?c ?k; (case a => k_is); (case l => k_is); (case c => k_is); (case k => k_is)
    case d_acc => refine' FW.DfAt.mk ?a ?l ?c ?k; (case a => k_is); (case l => k_is); (case c => k_is); (case k => k_is)
    case d_befores => refine' FW.DfAt.mk ?a ?l ?c ?k; (case a => k_is); (case l => k_is); (case c => k_is); (case k => k_is)
    case d_inloop => refine' FW.DfAt.mk ?a ?l ?c ?k; (case a => k_is); (case l => k_is); (case c => k_is); (case k => k_is)
    case d_reach => refine' FW.DfAt.mk ?a ?l ?c ?k; (case a => k_is); (case l => k_is); (case c => k_is); (case k => k_is)
    case d_chain => refine' FW.DfAt.mk ?a ?l ?c ?k; (case a => k_is); (case l => k_is); (case c => k_is); (case k => k_is)
    case d_loops => refine' FW.DfAt.mk ?a ?l ?c ?k; (case a => k_is); (case l => k_is); (case c => k_is); (case k => k_is)
    case d_open => refine' FW.DfAt.mk ?a ?l ?c ?k; (case a => k_is); (case l => k_is); (case c => k_is); (case k => k_is)
    case d_spread => refine' FW.DfAt.mk ?a ?l ?c ?k; (case a => k_is); (case l => k_is); (case c => k_is); (case k => k_is)
    case d_take => refine' FW.DfAt.mk ?a ?l ?c ?k; (case a => k_is); (case l => k_is); (case c => k_is); (case k => k_is)
    case d_pick => refine' FW.DfAt.mk ?a ?l ?c ?k; (case a => k_is); (case l => k_is); (case c => k_is); (case k => k_is)
    case d_straight => refine' FW.DfAt.mk ?a ?l ?c ?k; (case a => k_is); (case l => k_is); (case c => k_is); (case k => k_is)
    case d_line => refine' FW.DfAt.mk ?a ?l ?c ?k; (case a => k_is); (case l => k_is); (case c => k_is); (case k => k_is)
    case d_prog => refine' FW.DfAt.mk ?a ?l ?c ?k; (case a => k_is); (case l => k_is); (case c => k_is); (case k => k_is)
    case d_next => refine' FW.DfAt.mk ?a ?l ?c ?k; (case a => k_is); (case l => k_is); (case c => k_is); (case k => k_is)
    case d_steps => refine' FW.DfAt.mk ?a ?l ?c ?k; (case a => k_is); (case l => k_is); (case c => k_is); (case k => k_is)
    case d_right => refine' FW.DfAt.mk ?a ?l ?c ?k; (case a => k_is); (case l => k_is); (case c => k_is); (case k => k_is)
    case d_law => refine' FW.DfAt.mk ?a ?l ?c ?k; (case a => k_is); (case l => k_is); (case c => k_is); (case k => k_is)
    case b_isinstance => k_is
    case b_int => k_is
    case b_bool => k_is
    case b_str => k_is
    case b_tuple => k_is
    case b_len => k_is
    case b_enumerate => k_is
    case b_all => k_is
    case b_range => k_is
    case b_any => k_is
    case b_sorted => k_is
    case b_list => k_is
    case b_repr => k_is
    case c_MOST_NUMBER => refine' ⟨_, ?z⟩; (case z => (refine' Eq.trans ?y ?x; (case y => k_is); (case x => exact rfl)))
    case c_MOST_UNITS => refine' ⟨_, ?z⟩; (case z => (refine' Eq.trans ?y ?x; (case y => k_is); (case x => exact rfl)))
    case c_MOST_FIELDS => refine' ⟨_, ?z⟩; (case z => (refine' Eq.trans ?y ?x; (case y => k_is); (case x => exact rfl)))
    case c_MOST_FUNCTIONS => refine' ⟨_, ?z⟩; (case z => (refine' Eq.trans ?y ?x; (case y => k_is); (case x => exact rfl)))
    case c_MOST_IN_INITIALIZER => refine' ⟨_, ?z⟩; (case z => (refine' Eq.trans ?y ?x; (case y => k_is); (case x => exact rfl)))
    case c_MOST_IN_FUNCTION => refine' ⟨_, ?z⟩; (case z => (refine' Eq.trans ?y ?x; (case y => k_is); (case x => exact rfl)))
    case c_LAST_SLOT => refine' ⟨_, ?z⟩; (case z => (refine' Eq.trans ?y ?x; (case y => k_is); (case x => exact rfl)))
    case f_I =>
      refine' FW.KFAt.mk ?a ?l ?k ?s ?e; (case a => k_is); (case l => k_is); (case k => k_keys); (case s => first | rfl | decide)
      case e =>
        refine' (.cons ?e0 (.cons ?e1 (.cons ?e2 (.cons ?e3 (.cons ?e4 (.cons ?e5 .nil))))))
        case e0 => refine' FW.EntAt.mk rfl rfl (FW.TupAt.mk ?l ?d ?s ?v); (case l => k_is); (case d => rfl); (case s => decide); (case v => repeat (first | exact .nil | refine' .cons ⟨_, rfl⟩ ?_))
        case e1 => refine' FW.EntAt.mk rfl rfl (FW.TupAt.mk ?l ?d ?s ?v); (case l => k_is); (case d => rfl); (case s => decide); (case v => repeat (first | exact .nil | refine' .cons ⟨_, rfl⟩ ?_))
        case e2 => refine' FW.EntAt.mk rfl rfl (FW.TupAt.mk ?l ?d ?s ?v); (case l => k_is); (case d => rfl); (case s => decide); (case v => repeat (first | exact .nil | refine' .cons ⟨_, rfl⟩ ?_))
        case e3 => refine' FW.EntAt.mk rfl rfl (FW.TupAt.mk ?l ?d ?s ?v); (case l => k_is); (case d => rfl); (case s => decide); (case v => repeat (first | exact .nil | refine' .cons ⟨_, rfl⟩ ?_))
        case e4 => refine' FW.EntAt.mk rfl rfl (FW.TupAt.mk ?l ?d ?s ?v); (case l => k_is); (case d => rfl); (case s => decide); (case v => repeat (first | exact .nil | refine' .cons ⟨_, rfl⟩ ?_))
        case e5 => refine' FW.EntAt.mk rfl rfl (FW.TupAt.mk ?l ?d ?s ?v); (case l => k_is); (case d => rfl); (case s => decide); (case v => repeat (first | exact .nil | refine' .cons ⟨_, rfl⟩ ?_))
    case f_F =>
      refine' FW.KFAt.mk ?a ?l ?k ?s ?e; (case a => k_is); (case l => k_is); (case k => k_keys); (case s => first | rfl | decide)
      case e =>
        refine' (.cons ?e0 (.cons ?e1 (.cons ?e2 (.cons ?e3 (.cons ?e4 .nil)))))
        case e0 => refine' FW.EntAt.mk rfl rfl (FW.TupAt.mk ?l ?d ?s ?v); (case l => k_is); (case d => rfl); (case s => decide); (case v => repeat (first | exact .nil | refine' .cons ⟨_, rfl⟩ ?_))
        case e1 => refine' FW.EntAt.mk rfl rfl (FW.TupAt.mk ?l ?d ?s ?v); (case l => k_is); (case d => rfl); (case s => decide); (case v => repeat (first | exact .nil | refine' .cons ⟨_, rfl⟩ ?_))
        case e2 => refine' FW.EntAt.mk rfl rfl (FW.TupAt.mk ?l ?d ?s ?v); (case l => k_is); (case d => rfl); (case s => decide); (case v => repeat (first | exact .nil | refine' .cons ⟨_, rfl⟩ ?_))
        case e3 => refine' FW.EntAt.mk rfl rfl (FW.TupAt.mk ?l ?d ?s ?v); (case l => k_is); (case d => rfl); (case s => decide); (case v => repeat (first | exact .nil | refine' .cons ⟨_, rfl⟩ ?_))
        case e4 => refine' FW.EntAt.mk rfl rfl (FW.TupAt.mk ?l ?d ?s ?v); (case l => k_is); (case d => rfl); (case s => decide); (case v => repeat (first | exact .nil | refine' .cons ⟨_, rfl⟩ ?_))
