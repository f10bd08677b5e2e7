import PyProof.Rows.All
import Wide.All
import OpenK.AllK
import Wide.FinOn
import HandS.ForMost
import HandS.Evl
import HandS.Walk
import HandS.IsInst
import HandS.Exc
import HandS.TryOnly
import HandS.ExcOwn
import HandS.ExcValue
import HandS.ExcIs
import HandS.WordsExc
import KE.GoesEnum
import KE.GoesMore
import HandS.More
import PyProof.ReprRoads
import HandS.Style
import HandS.TupAny
import HandS.TupMul
import HandS.Conv
import HandS.Zip
import PySem.Challenge.RW_firstwake_k01_programs_recognized
set_option Elab.async false
set_option linter.all false
set_option maxRecDepth 100000
set_option maxHeartbeats 2000000
namespace FW
open PySem PySem.Spec PyProof.Rows L2
open Evl (pss_cut tCut)
/-! ### defs of the top, how they are called -/
def Df (K : PySem.W.Frag) (mg : Str → Option Value) (x : Str) (st : Stmt) : Prop := ∃ f fd, Fun K x x st f fd ∧ mg x = some (.ref f)
def Ok (P : Program) (w : World) (K : PySem.W.Frag) (mg : Str → Option Value) (base : Heap) (CX : CXT) (k : Nat) (x : Str) (ps : List Str) (sp : Sp) : Prop :=
  ∃ f fd, FnOk P w K mg base CX k f fd ps sp ∧ mg x = some (.ref f) ∧ PySem.W.keepIn K (.ref f) = true ∧ Binds K fd ps [] ∧ ∃ oc od sl, K.lookup f = some ⟨oc, od, .func fd, sl⟩
abbrev BindT (x : Str) (st : Stmt) (ps : List Str) : Prop := ∀ (kV doc pm : Value) (an : Option Addr) (cdv ct : Value) (us : List Value), us.length = ps.length →
  bindArgs (PySem.W.fnOf x x (defArgs st) (defBody st) (defScope st) .none kV doc pm an cdv ct) ⟨us, []⟩ = pure (ps.zip us)
section
variable {P : Program} {w : World} {K : PySem.W.Frag} {mg : Str → Option Value} {base : Heap}
theorem Fun.there {x q : Str} {st : Stmt} {f : Addr} {fd : FuncData} (F : Fun K x q st f fd) : ∃ oc od sl, K.lookup f = some ⟨oc, od, .func fd, sl⟩ := by
  obtain ⟨oc, od, kV, doc, pm, an, cdv, ct, osl, _, lk, _⟩ := F.ex
  exact ⟨oc, od, osl, lk⟩
theorem Df.ok {x : Str} {st : Stmt} {N ps : List Str} {k : Nat} {sp : Sp} (D : Df K mg x st) (S : FnScope N ps (defScope st)) (hb : BindT x st ps) (len : ∀ vs H Q E, sp vs H Q E → vs.length = ps.length)
    (hbody : ∀ (cdv : Value) (A : Around) (outer : List Env) (s : Shared) (H : Hp) (f : Addr) (vs : List V) (Q : VK) (E : XK), Room k (A.deeper (envOfC x (defScope st) s.heap.objs.size f cdv)) → sp vs H Q E →
      ∃ t, PSs (cxOf CX0 P w K mg base N x (defScope st) f cdv A outer s H E).nox (defBody st) t ∧ t { nx := fun _ H' => Q .non H', rt := Q } (start N vs) H) : Ok P w K mg base CX0 (k + 1) x ps sp := by
  obtain ⟨f, fd, F, hm⟩ := D
  exact ⟨f, fd, F.ok S len (fun cdv A outer s H vs Q E => hbody cdv A outer s H f vs Q E), hm, F.kp, F.binds hb, Fun.there F⟩
theorem Df.okX {x : Str} {st : Stmt} {N ps : List Str} {k : Nat} {sp : Sp} (D : Df K mg x st) (S : FnScope N ps (defScope st)) (hb : BindT x st ps) (len : ∀ vs H Q E, sp vs H Q E → vs.length = ps.length)
    (hbody : ∀ (cdv : Value) (A : Around) (outer : List Env) (s : Shared) (H : Hp) (f : Addr) (vs : List V) (Q : VK) (E : XK), Room k (A.deeper (envOfC x (defScope st) s.heap.objs.size f cdv)) → sp vs H Q E →
      ∃ t, PSs (cxOf (L2.CX P w) P w K mg base N x (defScope st) f cdv A outer s H E) (defBody st) t ∧ t { nx := fun _ H' => Q .non H', rt := Q } (start N vs) H) : Ok P w K mg base (L2.CX P w) (k + 1) x ps sp := by
  obtain ⟨f, fd, F, hm⟩ := D
  exact ⟨f, fd, F.okX S len (fun cdv A outer s H vs Q E => hbody cdv A outer s H f vs Q E), hm, F.kp, F.binds hb, Fun.there F⟩
theorem Ok.imp {CX : CXT} {k : Nat} {x : Str} {ps : List Str} {sp sp' : Sp} (o : Ok P w K mg base CX k x ps sp) (h : ∀ vs H Q E, sp' vs H Q E → sp vs H Q E) : Ok P w K mg base CX k x ps sp' := by
  obtain ⟨f, fd, F, hm, hk, hb, ht⟩ := o
  exact ⟨f, fd, F.imp h, hm, hk, hb, ht⟩
theorem Ok.mono {CX : CXT} {j k : Nat} {x : Str} {ps : List Str} {sp : Sp} (o : Ok P w K mg base CX j x ps sp) (h : j ≤ k) : Ok P w K mg base CX k x ps sp := by
  obtain ⟨f, fd, F, hm, hk, hb, ht⟩ := o
  exact ⟨f, fd, F.mono h, hm, hk, hb, ht⟩
end
section
variable {X : Cx} {x : Str} {k : Nat} {ps : List Str} {sp : Sp} {e : Expr} {es : List Expr} {t : TA} {p pos : Pos}
theorem pe_callO (o : Ok X.prog X.w X.K X.mg X.base CX0 k x ps sp) (hr : Room k X.A) (ha : PA X (e :: es) t) (hg : Gl X x := by rfl)
    (hdb : (x == ("__debug__" : Str)) = false := by decide) (he : starEach (e :: es) X.env = (false, eval e X.env) :: starEach es X.env := by rfl) (hpl : (backTo pos (starEach es X.env)).any (·.1) = false := by rfl) :
    PE X (.Call (.Name x p) (e :: es) [] pos) (tCall sp [] E0 t) := by
  obtain ⟨f, fd, F, hm, hk, hb, ht⟩ := o
  exact pe_call F hr hg hm hk hb .nil pass0 ha hdb he hpl
theorem pe_callOX {W : WX} (o : Ok X.prog X.w X.K X.mg X.base (L2.CX X.prog X.w) k x ps sp) (hr : Room k X.A) (tk : Takes X W) (ha : PA X (e :: es) t) (hg : Gl X x := by rfl)
    (hdb : (x == ("__debug__" : Str)) = false := by decide) (he : starEach (e :: es) X.env = (false, eval e X.env) :: starEach es X.env := by rfl) (hpl : (backTo pos (starEach es X.env)).any (·.1) = false := by rfl) :
    PE X (.Call (.Name x p) (e :: es) [] pos) (tCallS sp (WE W) t) := by
  obtain ⟨f, fd, F, hm, hk, hb, ht⟩ := o
  exact pe_callS F hr hg hm hk hb (fun σ => passAt tk σ) ha hdb he hpl
/-- a module's constant that is an int -/
theorem pe_const {i : Int} (h : ∃ t, X.mg x = some (.int i t)) (hg : Gl X x := by rfl) (hd : (x == ("__debug__" : Str)) = false := by decide) : PE X (.Name x pos) (tC (.int i)) := by
  obtain ⟨t, h⟩ := h
  exact pe_glob hg h ⟨t, rfl⟩ hd
end
section
variable {X : Cx} {x : Str} {pos : Pos}
/-- a module's name that holds an object -/
theorem pe_refg {a : Addr} (h : X.mg x = some (.ref a)) (hg : Gl X x := by rfl) (hd : (x == ("__debug__" : Str)) = false := by decide) : PE X (.Name x pos) (tC (.ref a)) := pe_glob hg h rfl hd
end
/-! ### rules with the written part named (within a comprehension) -/
section
variable {X : Cx} {K : PySem.W.Frag}
theorem ix_tupK (h : X.K = K) : IxR X (rIxT K) := by
  subst h
  exact ix_tup
theorem ix_listK (h : X.K = K) : IxR X (rIxL K) := by
  subst h
  exact ix_list
theorem call_lenK (h : X.K = K) : CallR X (.builtin "len") (fun xs H Q => ∃ p ys, xs = [.ref p] ∧ (SqL K H p ys ∨ SqT K H p ys) ∧ Q (.int ys.length) H) := by
  subst h
  exact call_len_seq
theorem isiK (h : X.K = K) : CallR X (.builtin "isinstance") (rIsi K) := by
  subst h
  exact call_isi
end
/-! ### heaps -/
theorem same_new {H : Hp} {p : Addr} {o : HO} (h : H p = none) : Same H (upd H p o) := fun b x e => by
  rw [upd_ne (ne_of_none e h)]
  exact e
theorem Same.new {H H1 : Hp} {p : Addr} {o : HO} (s : Same H H1) (h : H1 p = none) : Same H (upd H1 p o) := s.trans (same_new h)
/-- what is not at p -/
def off (H : Hp) (p : Addr) : Hp := fun b => if b = p then none else H b
theorem off_ne {H : Hp} {p b : Addr} (h : b ≠ p) : off H p b = H b := by
  unfold off
  rw [if_neg h]
theorem off_same {H : Hp} {p : Addr} : off H p p = none := by
  unfold off
  rw [if_pos rfl]
theorem off_sub {H : Hp} {p : Addr} : Same (off H p) H := fun b o e => by
  by_cases h : b = p
  · subst h
    rw [off_same] at e
    cases e
  · rw [off_ne h] at e
    exact e
theorem off_of {H : Hp} {p b : Addr} {o : HO} (e : H b = some o) (h : b ≠ p) : off H p b = some o := by
  rw [off_ne h]
  exact e
theorem off_mono {H H' : Hp} {p : Addr} (s : Same H H') : Same (off H p) (off H' p) := fun b o e => by
  by_cases h : b = p
  · subst h
    rw [off_same] at e
    cases e
  · rw [off_ne h] at e
    rw [off_ne h]
    exact s b o e
theorem off_upd {H H' : Hp} {p : Addr} {o : HO} (s : Same (off H p) (off H' p)) : Same (off H p) (off (upd H' p o) p) := fun b u e => by
  have q := s b u e
  by_cases h : b = p
  · subst h
    rw [off_same] at e
    cases e
  · rw [off_ne h] at q
    rw [off_ne h, upd_ne h]
    exact q
/-- the pen at p: its cells (a list of ints), how many were read, what is left of the last -/
def Pen (H : Hp) (p : Addr) (B : Nat) : Prop := ∃ (c : Addr) (cs : List Int) (at' r : Int), H p = some (.lst [.ref c, .int at', .int r]) ∧ H c = some (.lst (cs.map V.int)) ∧ cs.length ≤ 12 ∧ 0 ≤ at' ∧ at' ≤ (B : Int)
theorem Pen.mono {H : Hp} {p : Addr} {B B' : Nat} (h : Pen H p B) (le : B ≤ B') : Pen H p B' := by
  obtain ⟨c, cs, at', r, h1, h2, h3, h4, h5⟩ := h
  exact ⟨c, cs, at', r, h1, h2, h3, h4, by omega⟩
theorem Pen.ext {H H' : Hp} {p : Addr} {B : Nat} (h : Pen H p B) (s : Same H H') : Pen H' p B := by
  obtain ⟨c, cs, at', r, h1, h2, h3, h4, h5⟩ := h
  exact ⟨c, cs, at', r, s _ _ h1, s _ _ h2, h3, h4, h5⟩
theorem pen_ne {H : Hp} {p c : Addr} {cs : List Int} {at' r : Int} (h1 : H p = some (.lst [.ref c, .int at', .int r])) (h2 : H c = some (.lst (cs.map V.int))) : c ≠ p := fun e => by
  subst e
  rw [h1] at h2
  have q := HO.lst.inj (Option.some.inj h2)
  cases cs with
  | nil => cases q
  | cons x l =>
    rw [List.map_cons] at q
    have := (List.cons.inj q).1
    cases this
/-! ### lists of ints -/
theorem cut_to {ns : List Int} (k : Nat) : cutV (ns.map V.int) none (some (k : Int)) = (ns.take k).map V.int := by
  unfold cutV
  rw [HT.sIx_none, HT.sIx_nat, List.drop_zero, List.length_map, Nat.sub_zero, ← List.map_take]
  congr 1
  rcases Nat.le_total k ns.length with h | h
  · rw [Nat.min_eq_left h]
  · rw [Nat.min_eq_right h, List.take_of_length_le (Nat.le_refl _), List.take_of_length_le h]
theorem cut_len {ns : List Int} (lo hi : Option Int) : ∃ ms : List Int, cutV (ns.map V.int) lo hi = ms.map V.int := by
  unfold cutV
  rw [← List.map_drop, ← List.map_take]
  exact ⟨_, rfl⟩
theorem cut_past {ns : List Int} {k h : Nat} (hn : ns.length ≤ k) : cutV (ns.map V.int) (some (k : Int)) (some (h : Int)) = [] := by
  unfold cutV
  rw [show HT.sIx (ns.map V.int).length 0 (some (k : Int)) = min k (ns.map V.int).length from HT.sIx_nat _ _ _, List.length_map, Nat.min_eq_right hn, List.drop_of_length_le (by rw [List.length_map]; exact Nat.le_refl _), List.take_nil]
theorem ints_get {ns : List Int} {j : Nat} (h : j < ns.length) : ∃ z, (ns.map V.int)[j]? = some (.int z) := ⟨ns[j], by rw [List.getElem?_map, List.getElem?_eq_getElem h]; rfl⟩
theorem ints_at {ns : List Int} {i : Int} (h0 : 0 ≤ i) (h : i < (ns.length : Int)) : ∃ z, z ∈ ns ∧ atI (ns.map V.int) i = some (.int z) := by
  obtain ⟨j, rfl⟩ := Int.eq_ofNat_of_zero_le h0
  have hj : j < ns.length := by omega
  exact ⟨ns[j], List.getElem_mem hj, atI_nat (by rw [List.getElem?_map, List.getElem?_eq_getElem hj]; rfl)⟩
theorem ixN_in {n : Nat} {i : Int} (h0 : 0 ≤ i) (h : i < (n : Int)) : ixN n i = some i.toNat := by
  unfold ixN
  rw [if_pos h0, if_pos h]
theorem ints_set {ns : List Int} {j : Nat} {z : Int} : (ns.map V.int).set j (.int z) = (ns.set j z).map V.int := by
  rw [List.map_set]
theorem sz_of {n : Nat} (h : n ≤ 100000) : n ≤ sizeLine := Nat.le_trans h (by decide)
theorem sz_lt {n : Nat} (h : n < 100000) : n < sizeLine := Nat.lt_of_lt_of_le h (by decide)
/-! ### the end -/
/-- what the written part says of a def -/
def DfAt (K : PySem.W.Frag) (x : Str) (st : Stmt) : Prop := ∃ (f : Addr) (oc : Value) (od : Option Addr) (kV doc pm : Value) (an : Option Addr) (cdv ct : Value) (sl : Array (Option Value)),
  PySem.W.nsIn K mainGlobals x = some (some (.ref f)) ∧ K.lookup f = some ⟨oc, od, .func (PySem.W.fnOf x x (defArgs st) (defBody st) (defScope st) .none kV doc pm an cdv ct), sl⟩ ∧ PySem.W.codeIn K cdv x = true ∧ PySem.W.keepIn K (.ref f) = true
theorem DfAt.mk {K : PySem.W.Frag} {x : Str} {st : Stmt} {f : Addr} {oc : Value} {od : Option Addr} {kV doc pm : Value} {an : Option Addr} {cdv ct : Value} {sl : Array (Option Value)} (a : PySem.W.nsIn K mainGlobals x = some (some (.ref f)))
    (l : K.lookup f = some ⟨oc, od, .func (PySem.W.fnOf x x (defArgs st) (defBody st) (defScope st) .none kV doc pm an cdv ct), sl⟩) (c : PySem.W.codeIn K cdv x = true) (k : PySem.W.keepIn K (.ref f) = true) : DfAt K x st :=
  ⟨f, oc, od, kV, doc, pm, an, cdv, ct, sl, a, l, c, k⟩
theorem DfAt.df {K : PySem.W.Frag} {mg : Str → Option Value} {h : Heap} {x : Str} {st : Stmt} (D : DfAt K x st) (X : K.In h) (G : h.Ns mainGlobals mg) : Df K mg x st := by
  obtain ⟨f, oc, od, kV, doc, pm, an, cdv, ct, sl, a, l, c, k⟩ := D
  exact ⟨f, _, fun_mk l c k, PySem.W.mg_of X G a⟩
theorem end_law {P : Program} {w : World} {K : PySem.W.Frag} {mg : Str → Option Value} {fa : Addr} {st : Stmt} {k : Nat} {sp : Sp} (D : Df K mg "law" st) (hb : BindT "law" st ["script"]) (hfa : mg "law" = some (.ref fa))
    (ok : ∀ base : Heap, K.In base → base.Ns mainGlobals mg → Ok P w K mg base CX0 k "law" ["script"] sp) :
    ∃ fd : FuncData, (∀ (s : Shared) (v : Value), BindsTo s fd ⟨[v], []⟩ [("script", v)]) ∧ ∀ base : Heap, K.In base → base.Ns mainGlobals mg → FnOk P w K mg base CX0 k fa fd ["script"] sp := by
  obtain ⟨f, fd, F, hm⟩ := D
  obtain ⟨oc, od, kV, doc, pm, an, cdv, ct, osl, e, lk, _⟩ := F.ex
  have ef : f = fa := Value.ref.inj (Option.some.inj (hm.symm.trans hfa))
  subst ef
  refine ⟨fd, fun s v => ?_, fun base h1 h2 => ?_⟩
  · subst e
    exact .of_eq (hb kV doc pm an cdv ct [v] rfl)
  · obtain ⟨f', fd', X, hm', _, _, oc', od', sl', lk'⟩ := ok base h1 h2
    have ef : f' = f := Value.ref.inj (Option.some.inj (hm'.symm.trans hm))
    subst ef
    rw [lk] at lk'
    have e2 : fd' = fd := by
      have z := congrArg Obj.data (Option.some.inj lk')
      injection z with z
      exact z.symm
    subst e2
    exact X
/-! ### lists by values -/
open Evl (Ex Ev EvA EvL fresh_back)
/-- te gives a list of xs, new or not -/
def EvLw (te : TE) (σ : L2.St) (H : Hp) (xs : List V) : Prop := ∀ H1, Ex H H1 → ∀ Q : VK, (∀ p H2, Ex H1 H2 → H2 p = some (.lst xs) → Q (.ref p) H2) → te σ H1 Q
section
variable {σ : L2.St} {H : Hp} {ta tb te : TE}
theorem elw_new {xs : List V} (h : EvL te σ H xs) : EvLw te σ H xs := fun H1 e Q q => h H1 e Q fun p H2 _ e2 h2 => q p H2 e2 h2
theorem elw_var {i : Nat} {p : Addr} {xs : List V} (hi : σ[i]? = some (some (.ref p))) (hp : H p = some (.lst xs)) : EvLw (tVar i) σ H xs := fun H1 e Q q => ⟨.ref p, hi, q p H1 (Evl.Ex.refl _) (e p _ hp)⟩
theorem el_cat {xs ys : List V} (ha : EvLw ta σ H xs) (hb : EvLw tb σ H ys) (hz : xs.length + ys.length ≤ 100000) : EvL (tOp rCat ta tb) σ H (xs ++ ys) := fun H1 e Q q =>
  ha H1 e _ fun p H2 e2 h2 => hb H2 (e.trans e2) _ fun r H3 e3 h3 => ⟨p, r, xs, ys, rfl, rfl, e3 p _ h2, h3, sz_of hz, fun u nu => q u _ (fresh_back (e2.trans e3) nu) ((e2.trans e3).trans (same_new nu)) upd_same⟩
theorem el_rep {xs : List V} {k : Int} (ha : EvLw ta σ H xs) (hb : Ev tb σ H (.int k)) (h0 : 0 ≤ k) (h1 : k ≤ 1000) (hz : xs.length * k.toNat ≤ 100000) : EvL (tOp rRep ta tb) σ H (List.replicate k.toNat xs).flatten := fun H1 e Q q =>
  ha H1 e _ fun p H2 e2 h2 => hb H2 (e.trans e2) _ fun H3 e3 => ⟨p, k, xs, rfl, rfl, e3 p _ h2, by omega, by omega, sz_of hz, fun u nu => q u _ (fresh_back (e2.trans e3) nu) ((e2.trans e3).trans (same_new nu)) upd_same⟩
end
end FW
set_option Elab.async false
set_option linter.all false
set_option maxRecDepth 100000
set_option maxHeartbeats 4000000
/-! ### enumerate(tuple): the call, its turns, a for over it -/
namespace PySem
open Sem (wp)
theorem fw_meets_enum1 {v : Value} {ob : Obj} {Hv : Heap → Prop} (B : Begins v ob Hv) :
    Meets (Builtin.«enumerate.__new__» ⟨[.type "enumerate", v], []⟩) (fun _ R s => Hv s.heap ∧
      R (.ok (.ret (.ref (s.heap.push ob).objs.size))) { s with heap := (s.heap.push ob).push { cls := .type "enumerate", data := .fields #[.none, .bool false, .ref s.heap.objs.size, rawInt 0, .none, .none] } }) :=
  .of_wp fun prog w A R s given => by
    obtain ⟨hp, gs, dr, tk, os⟩ := s
    obtain ⟨hv, rest⟩ := given
    have subE := sub_enumerate
    have begin1 : ∀ {A' : Around} {E' : Value → Shared → Prop} {Q' : Value → Shared → Prop}, Q' (.ref hp.objs.size) ⟨hp.push ob, gs, dr, tk, os⟩ → wpAny (model prog w) A' (pyIter v) Q' E' ⟨hp, gs, dr, tk, os⟩ :=
      fun q => B.iter prog w _ _ ⟨hp, gs, dr, tk, os⟩ _ hv q
    wp_walk using begin1
    refine wpAny_stack_any (fun stk => wpAny_pure ?_)
    split
    · rename_i ty _ _ _ _ _
      cases (ty == Value.type "enumerate")
      · wp_walk using begin1
        exact ⟨_, rfl, rest⟩
      · wp_walk using begin1
        exact ⟨_, rfl, rest⟩
    · wp_walk using begin1
      exact ⟨_, rfl, rest⟩
section
variable {prog : Program} {w : World} {A : Around} {E : Value → Shared → Prop} {s : Shared}
theorem fw_enum1 {v : Value} {ob : Obj} {Hv : Heap → Prop} {Q : Value → Shared → Prop} (B : Begins v ob Hv) (hv : Hv s.heap)
    (q : ∀ h', IsEnum h' (s.heap.objs.size + 1) s.heap.objs.size 0 .none → h'.get? s.heap.objs.size = some ob →
      (∀ b o, s.heap.get? b = some o → h'.get? b = some o) → Q (.ref (s.heap.objs.size + 1)) { s with heap := h' }) :
    wpAny (model prog w) A (call (.type "enumerate") [v]) Q E s := by
  refine callType_new F.called_enumerate (by decide) (F.typeCall_enumerate_1 _) (F.newCall_enumerate_1 _) (fun self => F.args_object_init_2 self _) F.entry_enumerate_new (fw_meets_enum1 B) ⟨hv, ?_⟩
  have size1 : (s.heap.push ob).objs.size = s.heap.objs.size + 1 := Heap.size_push ..
  show _ ∧ _
  rw [size1]
  have isE : IsEnum ((s.heap.push ob).push { cls := .type "enumerate", data := .fields #[.none, .bool false, .ref s.heap.objs.size, rawInt 0, .none, .none] }) (s.heap.objs.size + 1) s.heap.objs.size 0 .none := by
    have z := Heap.get?_push_size (s.heap.push ob) (o := { cls := .type "enumerate", data := .fields #[.none, .bool false, .ref s.heap.objs.size, rawInt 0, .none, .none] }) rfl
    rw [size1] at z
    exact z
  exact ⟨⟨_, isE, rfl⟩, q _ isE (Heap.get?_push_of_some _ (Heap.get?_push_size _ B.free)) fun b o x => Heap.get?_push_of_some _ (Heap.get?_push_of_some _ x)⟩
end
end PySem
namespace FW
open PySem PySem.Spec PyProof.Rows L2
/-- the tuple at a, each item in a new pair -/
def Iet (K : PySem.W.Frag) (a : Addr) : It :=
  ⟨fun i H => ∃ (xs : List V) (x : V), SqT K H a xs ∧ xs[i]? = some x, fun i H v H' => ∃ T x, v = .ref T ∧ H T = none ∧ H' = upd H T (.tup [.int (i : Nat), x]) ∧ ∀ xs, SqT K H a xs → xs[i]? = some x, fun i H => ∃ xs : List V, SqT K H a xs ∧ xs.length = i⟩
theorem turn_enumT {P : Program} {w : World} {K : PySem.W.Frag} {elts : List Expr} {kk : Nat} {tpos : Pos} (a e it : Addr) (hae : a ≠ e) (hai : a ≠ it) :
    Turn P w K (.Tuple elts kk tpos) (Iet K a) [e, it] e (fun i h => (∃ old, IsEnum h e it ((i : Nat) : Int) old) ∧ h.IsTupleIter it a i ∧ e ≠ it) where
  mem := by simp
  obj := fun i h st b hb => by
    obtain ⟨⟨old, isE⟩, ⟨o, ho, _, hd⟩, _⟩ := st
    have two : b = e ∨ b = it := by simpa using hb
    rcases two with rfl | rfl
    · exact ⟨_, isE, fun v q => nomatch q⟩
    · exact ⟨o, ho, fun v q => by rw [hd] at q; cases q⟩
  keep := fun i h h' st k => by
    obtain ⟨⟨old, isE⟩, isI, ne⟩ := st
    exact ⟨⟨old, k e (by simp) _ isE⟩, isI.at fun o q => k it (by simp) o q, ne⟩
  item := by
    intro X e1 e2 e3 hc i pins s σ H E I hf st hg
    subst e1 e2 e3
    obtain ⟨⟨old, isE⟩, isI, ne⟩ := st
    obtain ⟨xs, x, hq, hx⟩ := hg
    obtain ⟨its, rv, isT, _⟩ := I.tuple hq
    obtain ⟨u, atU, ru⟩ := rv.get hx
    have elt : e < s.heap.objs.size := Heap.lt_size isE
    have ilt : it < s.heap.objs.size := by
      obtain ⟨_, q, _⟩ := id isI
      exact Heap.lt_size q
    have hd1 : X.A.in1.handled = none := I.ok.hd hc
    have D := Draws.tuple (prog := X.prog) (w := X.w) (A := X.A.in1) hd1 it a hai its.toArray
    have hi : i < its.toArray.size := by
      have := (List.getElem?_eq_some_iff.mp atU).1
      simpa using this
    refine wpAny_pyNext_enum_itemD (i := i) D isE ⟨isI, isT⟩ hi ne (by simp [hae.symm, ne]) fun y h' tk hy hout hst hT hsz hk => ?_
    have ey : y = u := by
      have z : its[i]? = some y := by simpa using hy
      exact Option.some.inj (z.symm.trans atU)
    subst ey
    refine ⟨_, rfl, wpAny_letOwnedTupleGo_enum (s := { s with heap := h', toks := tk + 1 }) hout fun h2 isE2 sb => ?_⟩
    have hT2 : h2.get? s.heap.objs.size = some { cls := .type "tuple", data := .seq #[.int i tk, y] } := (sb.2 _ (Nat.ne_of_gt elt)).trans hT
    have new : ObjOk X.prog X.w (upd H s.heap.objs.size (.tup [.int (i : Nat), x])) h2 s.heap.objs.size (.tup [.int (i : Nat), x]) :=
      ⟨by show 2 ≤ sizeLine; decide, [.int i tk, y], .cons ⟨_, rfl⟩ (.cons ru .nil), ⟨_, hT2, rfl, _, rfl⟩⟩
    have I1 : Inv X pins σ (upd H s.heap.objs.size (.tup [.int (i : Nat), x])) { s with heap := h2, toks := tk + 1 } :=
      I.turnedNew (ch := [e, it]) (fun b ob hb q => (sb.2 b (fun z => hb (by rw [z]; simp))).trans (hk b ob (fun z => hb (by rw [z]; simp)) (fun z => hb (by rw [z]; simp)) q)) hf (Nat.le_refl _) new
    refine ⟨.ref s.heap.objs.size, _, I1, rfl, ⟨_, x, rfl, I.hok.fresh (Nat.le_refl _), rfl, fun ys hy => ?_⟩, ⟨⟨y, ?_⟩, hst.1.at fun o q => (sb.2 it (Ne.symm ne)).trans q, ne⟩, fun b hb => ?_⟩
    · rw [I.tuple_inj hy hq]
      exact hx
    · have plus : ((i + 1 : Nat) : Int) = (i : Int) + 1 := by omega
      rw [plus]
      exact isE2
    · have below : b < s.heap.objs.size := by
        have two : b = e ∨ b = it := by simpa using hb
        rcases two with rfl | rfl
        · exact elt
        · exact ilt
      rw [upd_ne (Nat.ne_of_lt below)]
      exact (hf b hb).1
  done := by
    intro X e1 e2 e3 hc i pins s σ H E I hf st hg
    subst e1 e2 e3
    obtain ⟨⟨old, isE⟩, isI, ne⟩ := st
    obtain ⟨xs, hq, hx⟩ := hg
    obtain ⟨its, rv, isT, _⟩ := I.tuple hq
    have hd1 : X.A.in1.handled = none := I.ok.hd hc
    have D := Draws.tuple (prog := X.prog) (w := X.w) (A := X.A.in1) hd1 it a hai its.toArray
    obtain ⟨f0, f1, f2, f3, f4, f5⟩ := hf it (by simp)
    have ei : i = its.toArray.size := by
      have z := rv.length
      rw [← hx, z]
      simp
    refine wpAny_pyNext_enum_endD D isE (by rw [← ei]; exact ⟨isI, isT⟩) fun h' eb => ⟨rfl, I.turned (t' := s.toks) (fun b o hb q => eb b o hb q) f0 f1 f3 f4 f5⟩
  self := fun A i s Q E st h => by
    obtain ⟨⟨_, isE⟩, _⟩ := st
    exact wpAny_pyIter_enum isE h
theorem walk_enumT {K : PySem.W.Frag} {a : Addr} {xs : List V} : Walk (Iet K a) xs.length (fun H => SqT K H a xs) (YPair (fun i => some (.int (i : Nat))) (fun i => xs[i]?)) := by
  refine ⟨fun i _ hi q => ⟨xs, xs[i], q, by simp [hi]⟩, fun _ q => ⟨xs, q, rfl⟩, fun i H v H' _ q y => ?_⟩
  obtain ⟨T, x, h1, h2, h3, h4⟩ := y
  exact ⟨T, .int (i : Nat), x, h1, h2, h3, rfl, h4 xs q⟩
def iEnumT (K : PySem.W.Frag) (ta : TA) : TI := fun σ H R => ta σ H fun us H1 => ∃ a xs, us = [.ref a] ∧ SqT K H1 a xs ∧ R (Iet K a) H1
theorem pi_enumT {X : Cx} {e : Expr} {ta : TA} {p pos tpos : Pos} {elts : List Expr} {kk : Nat} (hg : Gl X "enumerate") (hm : X.mg "enumerate" = none) (ha : PA X [e] ta) (hs : starEach [e] X.env = [(false, eval e X.env)] := by rfl) :
    PI X (.Tuple elts kk tpos) (.Call (.Name "enumerate" p) [e] [] pos) (iEnumT X.K ta) := by
  refine ⟨fun pins s σ H R I hr => ?_⟩
  refine Call_ (ld_blt I hg hm boot_enumerate (PyProof.Rows.callWith_type1 (thn (ha.run pos pins s σ H _ I hr) fun ws s1 ⟨us, H1, I1, r1, q1⟩ => ?_) hs rfl))
  obtain ⟨a, xs, rfl, hq, q⟩ := q1
  cases r1 with
  | cons r rr =>
    cases rr
    cases r
    obtain ⟨its, rv, isT, _⟩ := I1.tuple hq
    have isT' : s1.heap.IsTuple a its.toArray := isT
    have alt : a < s1.heap.objs.size := by
      obtain ⟨_, z, _⟩ := isT'
      exact Heap.lt_size z
    refine fw_enum1 (begins_tuple a its.toArray) isT' fun h' isE ob hk => wpAny_pyIter_enum isE ?_
    have I2 : Inv X pins σ H1 { s1 with heap := h' } := I1.kept (t' := s1.toks) hk
    refine ⟨s1.heap.objs.size + 1, [s1.heap.objs.size + 1, s1.heap.objs.size], _, _, H1, rfl, I2, turn_enumT a (s1.heap.objs.size + 1) s1.heap.objs.size (Nat.ne_of_lt (Nat.lt_succ_of_lt alt)) (Nat.ne_of_lt alt), ⟨⟨.none, isE⟩, ⟨_, ob, rfl, rfl⟩, Nat.succ_ne_self _⟩, fun b hb => ?_, q⟩
    have above : s1.heap.objs.size ≤ b := by
      have two : b = s1.heap.objs.size + 1 ∨ b = s1.heap.objs.size := by simpa using hb
      rcases two with z | z
      · rw [z]
        exact Nat.le_succ _
      · exact Nat.le_of_eq z.symm
    exact I1.fpOk above (I1.hok.fresh above)
end FW
set_option Elab.async false
set_option linter.all false
set_option maxRecDepth 100000
set_option maxHeartbeats 4000000
namespace FW
open PySem PySem.Spec PyProof.Rows L2
open Evl (Ex Ev EvT EvA EvL EvU RC RV fresh_back)
/-! ### data: what may stand in a program, or near it -/
mutual
inductive Da (H : Hp) : V → PyData → Prop where
  | non : Da H .non .none
  | bl (b : Bool) : Da H (.bl b) (.bool b)
  | int (i : Int) : Da H (.int i) (.int i)
  | str (x : Str) : Da H (.str x) (.str x)
  | lst {a : Addr} {xs : List V} {ds : List PyData} : H a = some (.lst xs) → DaAll H xs ds → Da H (.ref a) (.list ds)
  | tup {a : Addr} {xs : List V} {ds : List PyData} : H a = some (.tup xs) → DaAll H xs ds → Da H (.ref a) (.tuple ds)
  | dic {a : Addr} : H a = some (.dK []) → Da H (.ref a) (.dict [])
inductive DaAll (H : Hp) : List V → List PyData → Prop where
  | nil : DaAll H [] []
  | cons {v : V} {vs : List V} {d : PyData} {ds : List PyData} : Da H v d → DaAll H vs ds → DaAll H (v :: vs) (d :: ds)
end
mutual
theorem Da.ex {H H' : Hp} (e : Ex H H') : ∀ {v : V} {d : PyData}, Da H v d → Da H' v d
  | _, _, .non => .non
  | _, _, .bl b => .bl b
  | _, _, .int i => .int i
  | _, _, .str x => .str x
  | _, _, .lst h a => .lst (e _ _ h) (DaAll.ex e a)
  | _, _, .tup h a => .tup (e _ _ h) (DaAll.ex e a)
  | _, _, .dic h => .dic (e _ _ h)
theorem DaAll.ex {H H' : Hp} (e : Ex H H') : ∀ {vs : List V} {ds : List PyData}, DaAll H vs ds → DaAll H' vs ds
  | _, _, .nil => .nil
  | _, _, .cons h r => .cons (Da.ex e h) (DaAll.ex e r)
end
theorem DaAll.len {H : Hp} : ∀ {vs : List V} {ds : List PyData}, DaAll H vs ds → vs.length = ds.length
  | _, _, .nil => rfl
  | _, _, .cons _ r => by rw [List.length_cons, List.length_cons, DaAll.len r]
theorem DaAll.at {H : Hp} : ∀ {vs : List V} {ds : List PyData} {i : Nat} {v : V}, DaAll H vs ds → vs[i]? = some v → ∃ d, ds[i]? = some d ∧ Da H v d
  | _, _, _, _, .nil, e => by simp at e
  | _, _, 0, _, .cons h _, e => ⟨_, rfl, Option.some.inj e ▸ h⟩
  | _, _, i + 1, _, .cons _ r, e => DaAll.at (i := i) r e
theorem DaAll.of {H : Hp} : ∀ {vs : List V} {ds : List PyData} {i : Nat} {d : PyData}, DaAll H vs ds → ds[i]? = some d → ∃ v, vs[i]? = some v ∧ Da H v d
  | _, _, _, _, .nil, e => by simp at e
  | _, _, 0, _, .cons h _, e => ⟨_, rfl, Option.some.inj e ▸ h⟩
  | _, _, i + 1, _, .cons _ r, e => DaAll.of (i := i) r e
theorem DaAll.app {H : Hp} : ∀ {vs us : List V} {ds es : List PyData}, DaAll H vs ds → DaAll H us es → DaAll H (vs ++ us) (ds ++ es)
  | _, _, _, _, .nil, r => r
  | _, _, _, _, .cons h t, r => .cons h (DaAll.app t r)
/-- the built-in type of a datum -/
def tyD : PyData → String
  | .none => "NoneType" | .bool _ => "bool" | .int _ => "int" | .str _ => "str" | .list _ => "list" | .tuple _ => "tuple" | .dict _ => "dict"
theorem Da.ty {K : PySem.W.Frag} {H : Hp} {v : V} {d : PyData} (h : Da H v d) : TyX K H v (.type (tyD d)) := by
  cases h with
  | non => exact .base .non
  | bl b => exact .base (.bl b)
  | int i => exact .base (.int i)
  | str x => exact .base (.str x)
  | lst h _ => exact .base (.lst h)
  | tup h _ => exact .base (.tup h)
  | dic h => exact .base (.dK h)
def isTyS (s t : String) : Bool := match kitB s t with
  | some b => b
  | none => false
def isTy (d : PyData) (t : String) : Bool := isTyS (tyD d) t
theorem tyD_mem (d : PyData) : tyD d ∈ ["NoneType", "bool", "int", "str", "list", "tuple", "dict"] := by cases d <;> simp [tyD]
theorem kit_d {K : PySem.W.Frag} (d : PyData) {t : String} (h : t = "int" ∨ t = "bool" ∨ t = "str" ∨ t = "tuple" ∨ t = "list") : PySem.W.kitOne K (.type (tyD d)) (.type t) = some (isTy d t) := by
  have e0 : ∀ s ∈ ["NoneType", "bool", "int", "str", "list", "tuple", "dict"], (kitB s t).isSome = true := by
    rcases h with rfl | rfl | rfl | rfl | rfl <;> decide +kernel
  obtain ⟨b, e⟩ := Option.isSome_iff_exists.mp (e0 _ (tyD_mem d))
  rw [kit_ty e]
  unfold isTy isTyS
  rw [e]
theorem ty_int (d : PyData) : isTy d "int" = (match d with | .int _ => true | .bool _ => true | _ => false) := by cases d <;> (unfold isTy; simp only [tyD]; decide +kernel)
theorem ty_bool (d : PyData) : isTy d "bool" = (match d with | .bool _ => true | _ => false) := by cases d <;> (unfold isTy; simp only [tyD]; decide +kernel)
theorem ty_str (d : PyData) : isTy d "str" = (match d with | .str _ => true | _ => false) := by cases d <;> (unfold isTy; simp only [tyD]; decide +kernel)
theorem ty_tuple (d : PyData) : isTy d "tuple" = (match d with | .tuple _ => true | _ => false) := by cases d <;> (unfold isTy; simp only [tyD]; decide +kernel)
theorem ty_list (d : PyData) : isTy d "list" = (match d with | .list _ => true | _ => false) := by cases d <;> (unfold isTy; simp only [tyD]; decide +kernel)
/-- isinstance(v, t), v a datum -/
theorem rc_isi {K : PySem.W.Frag} {H : Hp} {v : V} {d : PyData} {t : String} (h : Da H v d) (ht : t = "int" ∨ t = "bool" ∨ t = "str" ∨ t = "tuple" ∨ t = "list") : RC (rIsi K) [v, .ty t] H (.bl (isTy d t)) := fun H1 e Q q =>
  ⟨v, .ty t, _, .type t, _, rfl, .ty t, (h.ex e).ty, kit_d d ht, q H1 (Evl.Ex.refl _)⟩
/-! ### what the program's recognizers say of data -/
def isInt : PyData → Bool
  | .int _ => true
  | _ => false
def isIn (d : PyData) (lo hi : Int) : Bool := match d with
  | .int i => decide (lo ≤ i) && decide (i ≤ hi)
  | _ => false
def isTup (d : PyData) (n : Int) : Bool := match d with
  | .tuple ds => decide ((ds.length : Int) = n)
  | _ => false
theorem isIn_int {d : PyData} {lo hi : Int} (h : isIn d lo hi = true) : ∃ i, d = .int i ∧ lo ≤ i ∧ i ≤ hi := by
  cases d with
  | int i =>
    have z : (decide (lo ≤ i) && decide (i ≤ hi)) = true := h
    rw [Bool.and_eq_true, decide_eq_true_eq, decide_eq_true_eq] at z
    exact ⟨i, rfl, z⟩
  | _ => cases h
theorem isTup_tup {d : PyData} {n : Int} (h : isTup d n = true) : ∃ ds, d = .tuple ds ∧ (ds.length : Int) = n := by
  cases d with
  | tuple ds => exact ⟨ds, rfl, of_decide_eq_true h⟩
  | _ => cases h
/-- a promise: the value b, the heap grown -/
def Ret (b : V) (H : Hp) (Q : VK) : Prop := ∀ H2, Ex H H2 → Q b H2
theorem sv_ret {sp : Sp} {vs : List V} {H : Hp} {z : V} (h : ∀ H1, Ex H H1 → ∀ Q : VK, Ret z H1 Q → sp vs H1 Q E0) {σ : L2.St} {ta : TA} (ha : EvA ta σ H vs) : Ev (tCall sp [] E0 ta) σ H z := fun H1 e Q q =>
  ha H1 e _ fun H2 e2 => by
    rw [List.append_nil]
    exact h H2 (e.trans e2) Q fun H3 e3 => q H3 (e2.trans e3)
theorem start_ev {te : TE} {σ : L2.St} {H : Hp} {z : V} {Q : VK} (h : Ev te σ H z) (q : Ret z H Q) : te σ H Q := h H (Evl.Ex.refl _) Q q
/-! ### a dict that the module has written -/
def KD (K : PySem.W.Frag) (P : Params) (p : Addr) (kvs : List (Str × V)) : Prop := ∃ es n, K.lookup p = some ⟨.type "dict", none, .dict es n, #[]⟩ ∧ PySem.W.KeysLit P es.toList ∧ (p == sysModules) = false ∧
  Paired (fun (e : DictEntry) (kv : Str × V) => (∃ t, e.key = .str kv.1 t) ∧ RelV kv.2 e.val) es.toList kvs
theorem kd_find {es : List DictEntry} {kvs : List (Str × V)} (h : Paired (fun (e : DictEntry) (kv : Str × V) => (∃ t, e.key = .str kv.1 t) ∧ RelV kv.2 e.val) es kvs) (z : Str) :
    RelO (kvs.lookup z) ((es.find? fun e => Value.isStrOf z e.key).map (·.val)) := by
  induction h with
  | nil => trivial
  | @cons e kv es kvs h _ ih =>
    obtain ⟨⟨t, ek⟩, r⟩ := h
    obtain ⟨k, v⟩ := kv
    dsimp only at ek r
    by_cases c : z = k
    · subst c
      rw [List.find?_cons_of_pos (by rw [ek]; simp [Value.isStrOf])]
      simp only [List.lookup, beq_self_eq_true]
      exact r
    · have c2 : (z == k) = false := beq_eq_false_iff_ne.mpr c
      rw [List.find?_cons_of_neg (by rw [ek]; simp [Value.isStrOf]; exact fun q => c q.symm)]
      simp only [List.lookup, c2]
      exact ih
def rInKD (K : PySem.W.Frag) (w : World) : R2 := fun x y H Q => ∃ p z kvs, x = .str z ∧ y = .ref p ∧ KD K w.params p kvs ∧ Q (.bl (kvs.lookup z).isSome) H
def rIxKD (K : PySem.W.Frag) (w : World) : R2 := fun x y H Q => ∃ p z kvs v, x = .ref p ∧ y = .str z ∧ KD K w.params p kvs ∧ kvs.lookup z = some v ∧ Q v H
section
variable {X : Cx}
theorem op_inKD : OpR X (compareOp .In) (rInKD X.K X.w) := by
  intro pins s σ H x y v u Q I rx ry h
  obtain ⟨p, z, kvs, rfl, rfl, ⟨es, n, hl, hk, lo, hp⟩, q⟩ := h
  obtain ⟨t, rfl⟩ := rx
  obtain rfl : u = Value.ref p := ry
  have hf := kd_find hp z
  have e : findBy Value.isStrOf es z = (es.toList.find? fun e => Value.isStrOf z e.key).map (·.val) := by
    unfold findBy
    rw [← Array.find?_toList]
  refine wpAny_in_of (strKind_is X.prog X.w z t) lo (PySem.W.mapOf_K (prog := X.prog) (w := X.w) I.kIn hl hk) ⟨.bl (kvs.lookup z).isSome, H, I.tok _, ?_, q⟩
  rw [e]
  cases c1 : kvs.lookup z with
  | none =>
    rw [c1] at hf
    cases c2 : (es.toList.find? fun e => Value.isStrOf z e.key).map (·.val) with
    | none => exact rfl
    | some u =>
      rw [c2] at hf
      exact hf.elim
  | some v =>
    rw [c1] at hf
    cases c2 : (es.toList.find? fun e => Value.isStrOf z e.key).map (·.val) with
    | none =>
      rw [c2] at hf
      exact hf.elim
    | some u => exact rfl
theorem ix_KD : IxR X (rIxKD X.K X.w) := by
  intro ve sl pins s σ H x y v u Q I rx ry h hs
  obtain ⟨p, z, kvs, r, rfl, rfl, ⟨es, n, hl, hk, lo, hp⟩, er, q⟩ := h
  obtain rfl : v = Value.ref p := rx
  obtain ⟨t, rfl⟩ := ry
  have hf := kd_find hp z
  rw [er] at hf
  have e : findBy Value.isStrOf es z = (es.toList.find? fun e => Value.isStrOf z e.key).map (·.val) := by
    unfold findBy
    rw [← Array.find?_toList]
  cases c2 : (es.toList.find? fun e => Value.isStrOf z e.key).map (·.val) with
  | none =>
    rw [c2] at hf
    exact hf.elim
  | some u0 =>
    rw [c2] at hf
    have hm := PySem.W.mapOf_K (prog := X.prog) (w := X.w) I.kIn hl hk
    exact tail_any hm.typeIs slot_dict_getitem.lookup (wpAny_getItem_of (strKind_is X.prog X.w z t) hm (e.trans c2) ⟨r, H, I.tok _, hf, q⟩) hs
end
end FW
set_option Elab.async false
set_option linter.all false
set_option maxRecDepth 100000
set_option maxHeartbeats 4000000
namespace FW
open PySem PySem.Spec PyProof.Rows L2
open Evl (Ex Ev EvT EvA EvL EvU RC RV fresh_back)
/-! ### the mirror of is_program over data -/
def formsI : List (Str × List Str) := [("number", ["slot", "number"]), ("copy", ["slot", "slot"]), ("add", ["slot", "number"]), ("read", ["slot", "unit", "field"]), ("write", ["unit", "field", "slot"]), ("fail", [])]
def formsF : List (Str × List Str) := [("input", ["slot"]), ("show", ["slot"]), ("branch", ["place"]), ("call", ["later function"]), ("wake", ["unit", "later place"])]
def kindsOf (b : Bool) (w : Str) : Option (List Str) := if (formsI.lookup w).isSome then formsI.lookup w else if b && (formsF.lookup w).isSome then formsF.lookup w else none
/-- the least and the greatest operand of each kind, fields apart -/
abbrev Lims := List (Str × (Int × Int))
def limsI (n : Nat) : List (Str × (Int × Int)) := [("slot", (0, 2)), ("number", (0, 65535)), ("unit", (0, (n : Int) - 1))]
def limsE (n : Nat) (size : Nat) (own nf : Int) : List (Str × (Int × Int)) := (limsI n ++ [(("place" : Str), ((0 : Int), (size : Int)))]) ++ [(("later function" : Str), (own + 1, nf - 1))]
def limsF (n : Nat) (size : Nat) (own nf : Int) (place : Int) : List (Str × (Int × Int)) := limsE n size own nf ++ [(("later place" : Str), (place + 1, (size : Int)))]
def okOp (lims : Lims) (fs : List Int) (prev : PyData) (kind : Str) (d : PyData) : Bool :=
  if kind = "field" then (match prev with
    | .int u => isIn d 0 (fs.getD u.toNat 0 - 1)
    | _ => false)
  else (match lims.lookup kind with
    | some (lo, hi) => isIn d lo hi
    | none => false)
def okOps (lims : Lims) (fs : List Int) (ds : List PyData) (ks : List Str) : Bool := (List.range ks.length).all fun i => okOp lims fs (ds.getD i .none) (ks.getD i "") (ds.getD (i + 1) .none)
def okIns (b : Bool) (lims : Lims) (fs : List Int) (d : PyData) : Bool := match d with
  | .tuple (.str w :: r) => (match kindsOf b w with
    | some ks => decide (r.length = ks.length) && okOps lims fs (.str w :: r) ks
    | none => false)
  | _ => false
def okInit (fs : List Int) (d : PyData) : Bool := match d with
  | .tuple ds => decide (ds.length ≤ 6) && ds.all (okIns false (limsI fs.length) fs)
  | _ => false
def okCode (own nf : Int) (fs : List Int) (d : PyData) : Bool := match d with
  | .tuple ds => decide (1 ≤ ds.length) && decide (ds.length ≤ 8) && (List.range ds.length).all fun i => okIns true (limsF fs.length ds.length own nf (i : Nat)) fs (ds.getD i .none)
  | _ => false
def isNonD : PyData → Bool
  | .none => true
  | _ => false
def okUnit (n : Int) (d : PyData) : Bool := match d with
  | .tuple [p, f, _] => (isNonD p || isIn p 0 (n - 1)) && isIn f 0 3
  | _ => false
def okUnits (d : PyData) : Bool := match d with
  | .tuple ds => decide (1 ≤ ds.length) && decide (ds.length ≤ 6) && (List.range ds.length).all fun i => okUnit (i : Nat) (ds.getD i .none)
  | _ => false
def okFun (nu : Int) (d : PyData) : Bool := match d with
  | .tuple [u, _] => isIn u 0 (nu - 1)
  | _ => false
def okFuns (nu : Int) (d : PyData) : Bool := match d with
  | .tuple ds => decide (1 ≤ ds.length) && decide (ds.length ≤ 4) && ds.all (okFun nu)
  | _ => false
def fieldsD (d : PyData) : Int := match d with
  | .tuple [_, .int f, _] => f
  | _ => 0
def bodyD (d : PyData) : PyData := match d with
  | .tuple [_, _, b] => b
  | .tuple [_, b] => b
  | _ => .none
def okProg (d : PyData) : Bool := match d with
  | .tuple [.tuple us, .tuple fns] => okUnits (.tuple us) && okFuns (us.length : Nat) (.tuple fns) && us.all (fun u => okInit (us.map fieldsD) (bodyD u)) &&
      (List.range fns.length).all fun i => okCode (i : Nat) (fns.length : Nat) (us.map fieldsD) (bodyD (fns.getD i .none))
  | _ => false
theorem look_snoc {l : Lims} {k : Str} {y : Int × Int} (hn : l.lookup k = none) : ∀ (j : Str) (x : Int × Int), (l ++ [(k, y)]).lookup j = some x → if j = k then x = y else l.lookup j = some x := by
  intro j x h
  induction l with
  | nil =>
    rw [List.nil_append] at h
    simp only [List.lookup] at h
    by_cases c : j = k
    · rw [if_pos c]
      subst c
      rw [beq_self_eq_true] at h
      exact (Option.some.inj h).symm
    · rw [beq_eq_false_iff_ne.mpr c] at h
      cases h
  | cons e r ih =>
    obtain ⟨a, b⟩ := e
    rw [List.cons_append] at h
    simp only [List.lookup] at h hn ⊢
    cases ca : k == a with
    | true =>
      rw [ca] at hn
      cases hn
    | false =>
      rw [ca] at hn
      cases cb : j == a with
      | true =>
        rw [cb] at h
        have ne : j ≠ k := fun e => by
          rw [e, ca] at cb
          cases cb
        rw [if_neg ne]
        exact h
      | false =>
        rw [cb] at h
        exact ih hn h
/-- the kinds that need a limit -/
def needed (b : Bool) : List Str := if b then ["slot", "number", "unit", "place", "later function", "later place"] else ["slot", "number", "unit"]
def goodKs (b : Bool) (ks : List Str) : Bool := ks.all (fun k => k == "field" || (needed b).contains k) && (List.range ks.length).all fun i => !(ks.getD i "" == "field") || (decide (0 < i) && ks.getD (i - 1) "" == "unit")
theorem look_mem {fm : List (Str × List Str)} {w : Str} {ks : List Str} (h : fm.lookup w = some ks) : ks ∈ fm.map (·.2) := by
  induction fm with
  | nil => cases h
  | cons e r ih =>
    obtain ⟨a, b⟩ := e
    simp only [List.lookup] at h
    rw [List.map_cons]
    split at h
    · cases h
      exact List.mem_cons_self
    · exact List.mem_cons_of_mem _ (ih h)
theorem kinds_good {b : Bool} {w : Str} {ks : List Str} (h : kindsOf b w = some ks) : goodKs b ks = true := by
  unfold kindsOf at h
  split at h
  · have m := look_mem h
    have all : ∀ b, ∀ ks ∈ formsI.map (·.2), goodKs b ks = true := by decide +kernel
    exact all b ks m
  · split at h
    · rename_i c
      have m := look_mem h
      have all : ∀ ks ∈ formsF.map (·.2), goodKs true ks = true := by decide +kernel
      rw [Bool.and_eq_true] at c
      rw [c.1]
      exact all ks m
    · cases h
theorem good_needed {b : Bool} {ks : List Str} {k : Str} (h : goodKs b ks = true) (hk : k ∈ ks) (hf : k ≠ "field") : k ∈ needed b := by
  unfold goodKs at h
  rw [Bool.and_eq_true, List.all_eq_true] at h
  have z := h.1 k hk
  rw [beq_eq_false_iff_ne.mpr hf, Bool.false_or] at z
  exact List.contains_iff_mem.mp z
theorem good_field {b : Bool} {ks : List Str} {i : Nat} (h : goodKs b ks = true) (hi : ks[i]? = some ("field" : Str)) : 0 < i ∧ ks[i - 1]? = some ("unit" : Str) := by
  unfold goodKs at h
  rw [Bool.and_eq_true, List.all_eq_true, List.all_eq_true] at h
  obtain ⟨hlt, he⟩ := List.getElem?_eq_some_iff.mp hi
  have z := h.2 i (List.mem_range.mpr hlt)
  have e : ks.getD i "" = "field" := by rw [List.getD_eq_getElem?_getD, hi]; rfl
  rw [e, beq_self_eq_true, Bool.not_true, Bool.false_or, Bool.and_eq_true] at z
  have p := of_decide_eq_true z.1
  refine ⟨p, ?_⟩
  have hl : i - 1 < ks.length := by omega
  have e2 := eq_of_beq z.2
  rw [List.getD_eq_getElem?_getD, List.getElem?_eq_getElem hl] at e2
  rw [List.getElem?_eq_getElem hl]
  exact congrArg some e2
theorem okOps_no {lims : Lims} {fs : List Int} {ds : List PyData} {ks : List Str} {i : Nat} (hi : i < ks.length) (h : okOp lims fs (ds.getD i .none) (ks.getD i "") (ds.getD (i + 1) .none) = false) : okOps lims fs ds ks = false := by
  unfold okOps
  rw [Bool.eq_false_iff]
  intro z
  rw [List.all_eq_true] at z
  rw [z i (List.mem_range.mpr hi)] at h
  cases h
theorem okOps_yes {lims : Lims} {fs : List Int} {ds : List PyData} {ks : List Str} (h : ∀ i, i < ks.length → okOp lims fs (ds.getD i .none) (ks.getD i "") (ds.getD (i + 1) .none) = true) : okOps lims fs ds ks = true := by
  unfold okOps
  rw [List.all_eq_true]
  exact fun i hi => h i (List.mem_range.mp hi)
theorem getD_at {α : Type} {l : List α} {i : Nat} {x d : α} (h : l[i]? = some x) : l.getD i d = x := by
  rw [List.getD_eq_getElem?_getD, h]
  rfl
/-! ### comprehensions without tests over a tuple, over its enumeration -/
section
variable {K : PySem.W.Frag} {σ : L2.St} {H : Hp} {te tx : TE} {ta : TA}
theorem range_snoc {f : Nat → V} (i : Nat) : (List.range (i + 1)).map f = (List.range i).map f ++ [f i] := by
  rw [List.range_succ, List.map_append]
  rfl
/-- what stands of the new list within -/
def Mk (H : Hp) (f : Nat → V) (Dl : Addr) (i : Nat) (H' : Hp) : Prop := H Dl = none ∧ Ex H H' ∧ H' Dl = some (.lst ((List.range i).map f))
theorem mk_turn {H H' : Hp} {f : Nat → V} {Dl : Addr} {i : Nat} {σ2 : L2.St} (p : Mk H f Dl i H') (hi : i < 50000) (he : Ev te σ2 H' (f i)) :
    te σ2 H' fun y H4 => ∃ acc, H4 Dl = some (.lst acc) ∧ acc.length < sizeLine ∧ Mk H f Dl (i + 1) (upd H4 Dl (.lst (acc ++ [y]))) := by
  obtain ⟨p1, p2, p3⟩ := p
  refine he H' (Evl.Ex.refl _) _ fun H4 e4 => ⟨(List.range i).map f, e4 Dl _ p3, sz_lt (by rw [List.length_map, List.length_range]; omega), p1, Evl.Ex.mut (p2.trans e4) p1, ?_⟩
  rw [range_snoc]
  exact upd_same
theorem el_lcT {a : Addr} {xs : List V} {j : Nat} {vs : List Nat} (f : Nat → V) (h : Ev tx σ H (.ref a)) (hx : SqT K H a xs) (hz : xs.length ≤ 40000) (hw : ∀ x, wipe ((wipe σ vs).set j (some x)) vs = wipe σ vs)
    (he : ∀ (k : Nat) (x : V) H1, Ex H H1 → xs[k]? = some x → Ev te ((wipe σ vs).set j (some x)) H1 (f k)) : EvL (tLc (iTup K tx) (gName j) tYes te vs) σ H ((List.range xs.length).map f) := fun H0 e Q q => h H0 e _ fun H1 e1 => ⟨a, rfl, ⟨xs, Evl.ex_t (e.trans e1) hx⟩, fun Dl hD =>
  lc_it (walk_tup (xs := xs)) (fun i H' => Mk H1 f Dl i H' ∧ Ex H H') ⟨⟨hD, Evl.Ex.new hD, upd_same⟩, (e.trans e1).trans (Evl.Ex.new hD)⟩ (fun i H' _ p => Evl.ex_t p.2 hx) (fun k x H' H'' hk p y => by
    obtain ⟨rfl, hx'⟩ := y
    refine ⟨hw x, ?_⟩
    show te _ _ _
    have t := mk_turn p.1 (by omega) (he k x H'' p.2 hx')
    exact he k x H'' p.2 hx' H'' (Evl.Ex.refl _) _ fun H4 e4 => by
      obtain ⟨p1, p2, p3⟩ := p.1
      refine ⟨(List.range k).map f, e4 Dl _ p3, sz_lt (by rw [List.length_map, List.length_range]; omega), ⟨p1, Evl.Ex.mut (p2.trans e4) p1, ?_⟩, Evl.Ex.mut (p.2.trans e4) (fresh_back (e.trans e1) p1)⟩
      rw [range_snoc]
      exact upd_same) (fun H' p => q Dl H' (fresh_back e1 p.1.1) (e1.trans p.1.2.1) p.1.2.2)⟩
theorem el_lcE {a : Addr} {xs : List V} {i j : Nat} {vs : List Nat} (f : Nat → V) (h : EvA ta σ H [.ref a]) (hx : SqT K H a xs) (hz : xs.length ≤ 40000) (hw : ∀ x y, wipe (((wipe σ vs).set i (some x)).set j (some y)) vs = wipe σ vs)
    (he : ∀ (k : Nat) (x : V) H1, Ex H H1 → xs[k]? = some x → Ev te (((wipe σ vs).set i (some (.int (k : Nat)))).set j (some x)) H1 (f k)) :
    EvL (tLc (iEnumT K ta) (gTup K 2 (gCons (gName i) (gCons (gName j) gNil))) tYes te vs) σ H ((List.range xs.length).map f) := fun H0 e Q q => h H0 e _ fun H1 e1 => ⟨a, xs, rfl, Evl.ex_t (e.trans e1) hx, fun Dl hD =>
  lc_it (walk_enumT (xs := xs)) (fun i H' => Mk H1 f Dl i H' ∧ Ex H H') ⟨⟨hD, Evl.Ex.new hD, upd_same⟩, (e.trans e1).trans (Evl.Ex.new hD)⟩ (fun i H' _ p => Evl.ex_t p.2 hx) (fun k x H' H'' hk p y => by
    obtain ⟨T, x1, x2, rfl, nT, rfl, f1, f2⟩ := y
    obtain rfl : x1 = .int (k : Nat) := (Option.some.inj f1).symm
    refine ⟨T, _, rfl, .inl (.inl upd_same), rfl, _, _, rfl, _, _, rfl, rfl, hw _ _, ?_⟩
    have eT := Evl.Ex.new nT (o := .tup [V.int (k : Nat), x2])
    show te _ _ _
    exact he k x2 _ (p.2.trans eT) f2 _ (Evl.Ex.refl _) _ fun H4 e4 => by
      obtain ⟨p1, p2, p3⟩ := p.1
      refine ⟨(List.range k).map f, e4 Dl _ (eT Dl _ p3), sz_lt (by rw [List.length_map, List.length_range]; omega), ⟨p1, Evl.Ex.mut ((p2.trans eT).trans e4) p1, ?_⟩, Evl.Ex.mut ((p.2.trans eT).trans e4) (fresh_back (e.trans e1) p1)⟩
      rw [range_snoc]
      exact upd_same) (fun H' p => q Dl H' (fresh_back e1 p.1.1) (e1.trans p.1.2.1) p.1.2.2)⟩
/-- all(..) of a new list of truth values -/
theorem ev_allN {K : PySem.W.Frag} {bs : List Bool} (h : EvLw tx σ H (bs.map V.bl)) : Ev (tCB (rAll K) (tCons tx tNil)) σ H (.bl (bs.all id)) := fun H1 e Q q =>
  h H1 e _ fun p H2 e2 h2 => ⟨p, bs, rfl, .inl (.inl h2), q H2 e2⟩
theorem bl_map {f : Nat → Bool} {n : Nat} : (List.range n).map (fun i => V.bl (f i)) = ((List.range n).map f).map V.bl := by
  rw [List.map_map]
  rfl
theorem all_map {f : Nat → Bool} {n : Nat} : ((List.range n).map f).all id = (List.range n).all f := by
  rw [List.all_map]
  rfl
/-- all of a list by places -/
theorem all_at {α : Type} {ds : List α} {g : α → Bool} {d : α} : (List.range ds.length).all (fun i => g (ds.getD i d)) = ds.all g := by
  induction ds with
  | nil => rfl
  | cons x r ih =>
    rw [List.length_cons, List.range_succ_eq_map, List.all_cons, List.all_cons, List.all_map, ← ih]
    rfl
end
end FW
set_option Elab.async false
set_option linter.all false
set_option maxRecDepth 100000
set_option maxHeartbeats 4000000
namespace FW
open PySem PySem.Spec PyProof.Rows L2
/-! ### a walk over a dict that is never written again: it is locked for good -/
def iKeysF (td : TE) : TI := fun σ H R => td σ H fun x H1 => ∃ (d : Addr) (kvs : List (Key × V)), x = .ref d ∧ H1 d = some (.dK kvs) ∧ ∀ o, R (Itk d o kvs) (upd H1 d (.frz o (.dK kvs)))
theorem pi_keysF {X : Cx} {tg e : Expr} {td : TE} (he : PE X e td) : PI X tg e (iKeysF td) := by
  refine ⟨fun pins s σ H R I h => ?_⟩
  refine thn (he.run pins s σ H _ I h) fun u s1 ⟨x, H1, I0, rx, d, kvs, ex, hd0, q⟩ => ?_
  subst ex
  obtain rfl : u = Value.ref d := rx
  obtain ⟨o, I1⟩ := I0.lock hd0 (by exact trivial)
  have hd : (upd H1 d (.frz o (.dK kvs))) d = some (.frz o (.dK kvs)) := upd_same
  obtain ⟨hs, hgd, hx, es, ep, vs, hdt, hsz, kv, hm⟩ := I1.frzK hd
  refine iter_keys hs hgd hx hdt (pi_one (tk := s1.toks) I1 _ (turn_keys _ hdt) ⟨_, Heap.get?_push_size _ rfl, rfl, ?_⟩ (q o))
  rw [hsz] <;> rfl
/-- what stands behind the bound of a comprehension over a range -/
def LcRest (te : TE) (σ : L2.St) (vs : List Nat) (j : Nat) (Q : VK) (n : Nat) (H1 : Hp) : Prop := ∀ D, H1 D = none → ∃ W : Nat → Nat → Hp → Prop, (∃ m, W 0 m (upd H1 D (.lst []))) ∧ ∀ i m H, W i m H →
      ((Itr 0 n).stop i H ∧ Q (.ref D) H) ∨ ((Itr 0 n).go i H ∧ ∃ Nx : Hp → Prop, (∀ H', Nx H' → ∃ m', m' < m ∧ W (i + 1) m' H') ∧ ∀ x H', (Itr 0 n).yld i H x H' → gName j x (wipe σ vs) H' fun σ2 H2 => wipe σ2 vs = wipe σ vs ∧ tYes σ2 H2 fun b H3 =>
        if b = true then te σ2 H3 fun y H4 => ∃ acc, H4 D = some (.lst acc) ∧ acc.length < sizeLine ∧ Nx (upd H4 D (.lst (acc ++ [y]))) else Nx H3)
theorem tlcI {ta : TA} {te : TE} {σ : L2.St} {vs : List Nat} {j : Nat} {Q : VK} {H : Hp} (h : ta σ H fun xs H1 => ∃ n : Int, xs = [.int n] ∧ -(2 ^ 62) ≤ n ∧ n < 2 ^ 62 ∧ LcRest te σ vs j Q n.toNat H1) : tLc (iRng1 ta) (gName j) tYes te vs σ H Q := h
theorem asgLc {ta : TA} {te : TE} {σ : L2.St} {vs : List Nat} {i j : Nat} {tz : TS} {D : Ends} {H : Hp} (h : ta σ H fun xs H1 => ∃ n : Int, xs = [.int n] ∧ -(2 ^ 62) ≤ n ∧ n < 2 ^ 62 ∧ LcRest te σ vs j (fun v H2 => tz D (σ.set i (some v)) H2) n.toNat H1) :
    tSeq (tAsg (tLc (iRng1 ta) (gName j) tYes te vs) (gName i)) tz D σ H := h
theorem pi_enumTK {X : Cx} {K : PySem.W.Frag} (h : X.K = K) {e : Expr} {ta : TA} {p pos tpos : Pos} {elts : List Expr} {kk : Nat} (hg : Gl X "enumerate") (hm : X.mg "enumerate" = none) (ha : PA X [e] ta) (hs : starEach [e] X.env = [(false, eval e X.env)] := by rfl) :
    PI X (.Tuple elts kk tpos) (.Call (.Name "enumerate" p) [e] [] pos) (iEnumT K ta) := by
  subst h
  exact pi_enumT hg hm ha hs
theorem op_inK {X : Cx} {K : PySem.W.Frag} (h : X.K = K) : OpR X (compareOp .In) (rIn K false) := by
  subst h
  exact op_in_seq
end FW
set_option Elab.async false
set_option linter.all false
set_option maxRecDepth 100000
set_option maxHeartbeats 4000000
namespace FW
open PySem PySem.Spec PyProof.Rows L2
/-! ### defs that show data: no repr is under way around them -/
structure FnG (P : Program) (w : World) (K : PySem.W.Frag) (mg : Str → Option Value) (base : Heap) (k : Nat) (f : Addr) (fd : FuncData) (ps : List Str) (sp : Sp) : Prop where
  len : ∀ vs H Q E, sp vs H Q E → vs.length = ps.length
  run : ∀ (A : Around) (outer : List Env) (s : Shared) (H : Hp) (args : Args) (us : List Value) (vs : List V) (Q : VK) (E : XK), Room k A → A.guards = some [] → Env0 P w K mg base A outer s H → BindsTo s fd args (ps.zip us) → Vals vs us → sp vs H Q E →
    codeAny (model P w) A (.call (.ref f) args) (CR CX0 outer P w H s Q E) s
theorem fnG_of {P : Program} {w : World} {K : PySem.W.Frag} {mg : Str → Option Value} {base : Heap} {k : Nat} {f : Addr} {nm ql : Str} {prm : Arguments} {bd : List Stmt} {sc : Scope} {dV kV doc pm cdv ct oc : Value} {an od : Option Addr}
    {osl : Array (Option Value)} {N ps : List Str} {sp : Sp} (there : K.lookup f = some ⟨oc, od, .func (PySem.W.fnOf nm ql prm bd sc dV kV doc pm an cdv ct), osl⟩) (code : PySem.W.codeIn K cdv ql = true) (S : FnScope N ps sc) (len : ∀ vs H Q E, sp vs H Q E → vs.length = ps.length)
    (body : ∀ (A : Around) (outer : List Env) (s : Shared) (H : Hp) (vs : List V) (Q : VK) (E : XK), Room k (A.deeper (envOfC ql sc s.heap.objs.size f cdv)) → A.guards = some [] → sp vs H Q E →
      ∃ t, PSs (cxOf CX0 P w K mg base N ql sc f cdv A outer s H E) bd t ∧ t { nx := fun _ H' => Q .non H', rt := Q } (start N vs) H) :
    FnG P w K mg base (k + 1) f (PySem.W.fnOf nm ql prm bd sc dV kV doc pm an cdv ct) ps sp := by
  refine ⟨len, fun A outer s H args us vs Q E room guard env bnd rv want => ?_⟩
  have lens := len _ _ _ _ want
  have inK : K.In s.heap := env.mod.kin.keeps fun b o e => (env.bs b o e).1
  have free : s.heap.NoLimit := env.mod.nolimit.keeps fun b o e => (env.bs b o e).1
  have kinds : ∀ y ∈ ps.zip us, sc.names.lookup y.1 = some .local ∨ (sc.names.lookup y.1 = some .cell ∧ ((cellsFrom (s.heap.objs.size + 1) sc.names []).lookup y.1).isSome = true) := by
    rintro ⟨n, v⟩ hy
    rcases S.par n (List.of_mem_zip hy).1 with q | q
    · exact Or.inl q
    · exact Or.inr ⟨q, PySem.W.cellsFrom_some _ _ _ (Or.inl q)⟩
  refine codeAny_call_function room.depth (inK _ _ there) rfl S.co S.gen rfl (PySem.W.codeRec_of inK code) (bnd _ _ _ _ ?_)
  refine wpAny_newFunctionEnv_cells S.kind kinds fun ev isEv s1 x => ?_
  subst isEv
  refine ⟨free.keeps x.toInCall.keep, codeAny_func ?_⟩
  obtain ⟨t, ht, hq⟩ := body A outer s H vs Q E (room.deeper _) guard want
  have J0 : Inv (cxOf CX0 P w K mg base N ql sc f cdv A outer s H E) [] (start N vs) H s1 := inv_start S room.hd env lens rv x
  refine wpAny_mono (ht.run [] s1 (start N vs) H _ J0 hq) (fun fl s' hs => ?_) fun e s' hs => hs
  have out : ∀ {σ' : L2.St} {H' : Hp} {v : V} {u : Value}, Inv (cxOf CX0 P w K mg base N ql sc f cdv A outer s H E) [] σ' H' s' → RelV v u → Q v H' → CE outer P w H s Q u s' :=
    fun {σ' H' v u} J r q => ⟨v, H', J.os, J.bare, J.base, J.hok, r, q⟩
  cases fl with
  | ret u =>
    obtain ⟨v, σ', H', J, r, q⟩ := hs
    exact out J r q
  | next =>
    obtain ⟨σ', H', J, q⟩ := hs
    exact out (v := V.non) (u := Value.none) J rfl q
  | brk =>
    obtain ⟨_, _, _, z⟩ := hs
    exact z.elim
  | cont =>
    obtain ⟨_, _, _, z⟩ := hs
    exact z.elim
def OkG (P : Program) (w : World) (K : PySem.W.Frag) (mg : Str → Option Value) (base : Heap) (k : Nat) (x : Str) (ps : List Str) (sp : Sp) : Prop :=
  ∃ f fd, FnG P w K mg base k f fd ps sp ∧ mg x = some (.ref f) ∧ PySem.W.keepIn K (.ref f) = true ∧ Binds K fd ps [] ∧ ∃ oc od sl, K.lookup f = some ⟨oc, od, .func fd, sl⟩
section
variable {P : Program} {w : World} {K : PySem.W.Frag} {mg : Str → Option Value} {base : Heap}
theorem Df.okG {x : Str} {st : Stmt} {N ps : List Str} {k : Nat} {sp : Sp} (D : Df K mg x st) (S : FnScope N ps (defScope st)) (hb : BindT x st ps) (len : ∀ vs H Q E, sp vs H Q E → vs.length = ps.length)
    (hbody : ∀ (cdv : Value) (A : Around) (outer : List Env) (s : Shared) (H : Hp) (f : Addr) (vs : List V) (Q : VK) (E : XK), Room k (A.deeper (envOfC x (defScope st) s.heap.objs.size f cdv)) → A.guards = some [] → sp vs H Q E →
      ∃ t, PSs (cxOf CX0 P w K mg base N x (defScope st) f cdv A outer s H E).nox (defBody st) t ∧ t { nx := fun _ H' => Q .non H', rt := Q } (start N vs) H) : OkG P w K mg base (k + 1) x ps sp := by
  obtain ⟨f, fd, F, hm⟩ := D
  obtain ⟨oc, od, kV, doc, pm, an, cdv, ct, osl, rfl, lk, hcd⟩ := id F.ex
  refine ⟨f, _, fnG_of lk hcd S len fun A outer s H vs Q E hr hg hsp => ?_, hm, F.kp, F.binds hb, oc, od, osl, lk⟩
  obtain ⟨t, h, q⟩ := hbody cdv A outer s H f vs Q E hr hg hsp
  exact ⟨t, h.nox, q⟩
end
section
variable {X : Cx} {x : Str} {k : Nat} {ps : List Str} {sp : Sp} {e : Expr} {es : List Expr} {t : TA} {p pos : Pos}
theorem pe_callG (o : OkG X.prog X.w X.K X.mg X.base k x ps sp) (hr : Room k X.A) (hG : X.A.guards = some []) (ha : PA X (e :: es) t) (hg : Gl X x := by rfl)
    (hdb : (x == ("__debug__" : Str)) = false := by decide) (he : starEach (e :: es) X.env = (false, eval e X.env) :: starEach es X.env := by rfl) (hpl : (backTo pos (starEach es X.env)).any (·.1) = false := by rfl) :
    PE X (.Call (.Name x p) (e :: es) [] pos) (tCall sp [] E0 t) := by
  obtain ⟨f, fd, F, hm, hk, hb, _⟩ := o
  refine ⟨fun pins s σ H Q I h0 => ?_⟩
  refine wpAny_Call_Name_kw (ld_glob I hg hm ?_ hdb)
  refine PySem.W.callWith_K (h₀ := X.base) I.ok.mod.kin hk (thn (ha.run pos pins s σ H _ I h0) fun us s1 ⟨vs, H1, I1, rv, q0⟩ => ⟨I1.kIn, ?_⟩) he hpl
  have q : sp vs H1 Q E0 := by
    have z : sp (vs ++ []) H1 Q E0 := q0
    rw [List.append_nil] at z
    exact z
  have hl : us.length = ps.length := by rw [← rv.length]; exact F.len _ _ _ _ q
  have hb' := hb s1 us I1.kIn (by rw [List.append_nil]; exact hl)
  rw [List.append_nil] at hb'
  refine wpAny_call (codeAny_mono (F.run X.A X.stack s1 H1 ⟨us, []⟩ us vs Q E0 hr hG I1.env0 hb' rv q) fun r s' hq => ?_)
  cases r with
  | error e => exact hq.elim
  | ok fl =>
    cases fl with
    | ret u => exact I1.after hq
    | next => exact False.elim hq
    | brk => exact False.elim hq
    | cont => exact False.elim hq
/-- repr(x), x data without dicts -/
def rRepr (K : PySem.W.Frag) : List V → Hp → VK → Prop := fun xs H Q => ∃ (a : Addr) (d : PyData), xs = [.ref a] ∧ Dp K H (.ref a) d ∧ d.showable = true ∧ d.hasDict = false ∧ d.depth ≤ 60 ∧ d.shown.length ≤ sizeLine ∧ Q (.str d.shown) H
theorem call_repr (hG : X.A.guards = some []) (hu : X.A.units + 64 < cLine) : CallR X (.builtin "repr") (rRepr X.K) := by
  intro pins s σ H xs us Q I r h
  obtain ⟨a, d, rfl, hd, hs, hn, hdp, hz, q⟩ := h
  cases r with
  | cons r1 r' =>
    cases r'
    obtain ⟨as, rd⟩ := Dp.reads I d _ _ hd r1
    cases r1
    exact repr_of_reads' rd hs (PyData.noDict_hsm hn) hG (by omega) (fun _ _ e => e) (fun h' u tk hk => ⟨.str d.shown, H, I.kept hk, ⟨_, rfl⟩, q⟩) hz
end
/-! ### the end, for a law that shows data -/
theorem law_callG {P : Program} {w : World} {K : PySem.W.Frag} {mg mb : Str → Option Value} {k : Nat} {fa a : Addr} {fd : FuncData} {x : Str} {sp : Sp} {s₁ : Shared} {vs : List Value} {ns : List Int}
    (inK : K.In s₁.heap) (top : s₁.heap.Ns mainGlobals mg) (bn : s₁.heap.Ns builtinsNs mb) (bb : ∀ x : Str, x ≠ "__name__" → mb x = bootBuiltins x) (nl : s₁.heap.NoLimit) (gens : s₁.gens = #[])
    (scr : s₁.heap.get? a = some { cls := .type "list", data := .seq vs.toArray }) (theInts : IntsAre vs ns) (few : ns.length ≤ sizeLine) (hr : Room k callerA)
    (F : ∀ base : Heap, K.In base → base.Ns mainGlobals mg → FnG P w K mg base k fa fd [x] sp) (bind1 : ∀ (s : Shared) (u : Value), BindsTo s fd ⟨[u], []⟩ [(x, u)])
    (want : ∀ H : Hp, Only H → SqL K H a (ns.map V.int) → sp [.ref a] H (fun v _ => v = .bl true) fun _ _ _ => False) :
    codeAny (model P w) callerA (.call (.ref fa) ⟨[.ref a], []⟩) (fun r s' => r = .ok (.ret (.bool true)) ∧ OldK s₁.heap s'.heap ∧ s'.os = s₁.os ∧ AllBare s'.gens) s₁ := by
  have rel := vals_ints theInts
  have many := theInts.length
  have main : ∀ H : Hp, Only H → SqL K H a (ns.map V.int) → HOk P w H s₁.heap → (∀ b, H b ≠ none → b = a) → (H a ≠ none → K.lookup a = none) →
      codeAny (model P w) callerA (.call (.ref fa) ⟨[.ref a], []⟩) (fun r s' => r = .ok (.ret (.bool true)) ∧ OldK s₁.heap s'.heap ∧ s'.os = s₁.os ∧ AllBare s'.gens) s₁ := by
    intro H only seq ok lone apart
    have hid : ∀ {b : Addr} {o : Obj}, s₁.heap.get? b = some o → H b = none → (hidT s₁.heap H).get? b = some o := fun e n => hidT_get e n
    have nodict : ∀ {b : Addr} {o : Obj} {es : Array DictEntry} {ep : Nat}, s₁.heap.get? b = some o → o.data = .dict es ep → H b = none := by
      intro b o es ep e d
      cases q : H b with
      | none => rfl
      | some u =>
        have eb : b = a := lone b (by rw [q]; exact fun z => nomatch z)
        subst eb
        rw [scr] at e
        cases e
        have d' : Data.seq vs.toArray _ = Data.dict es ep := d
        cases d'
    have nsH : ∀ {b : Addr} {m : Str → Option Value}, s₁.heap.Ns b m → (hidT s₁.heap H).Ns b m := by
      rintro b m ⟨o, es, ep, e, d, r⟩
      exact ⟨o, es, ep, hid e (nodict e d), d, r⟩
    have inB : K.In (hidT s₁.heap H) := fun b o e => hid (inK b o e) (by
      cases q : H b with
      | none => rfl
      | some u =>
        have eb : b = a := lone b (by rw [q]; exact fun z => nomatch z)
        subst eb
        rw [apart (by rw [q]; exact fun z => nomatch z)] at e
        cases e)
    have modB : Mod K mg (hidT s₁.heap H) := by
      obtain ⟨mc, h1, h2⟩ := nl
      exact ⟨inB, nsH top, ⟨mb, nsH bn, bb⟩, ⟨mc, nsH h1, h2⟩⟩
    have e0 : Env0 P w K mg (hidT s₁.heap H) callerA [] s₁ H := ⟨rfl, modB, fun b o e => of_hidT e, Nat.le_of_eq (hidT_size _ _), trivial, fun b hb => absurd (show b ∈ ([] : List Addr) from hb) (by simp), ok, .of_eq gens⟩
    refine codeAny_mono ((F _ inB (nsH top)).run callerA [] s₁ H ⟨[.ref a], []⟩ [.ref a] [.ref a] _ _ hr rfl e0 (bind1 s₁ (.ref a)) (.cons rfl .nil) (want H only seq)) fun r s' h => ?_
    cases r with
    | error e => exact False.elim h
    | ok fl =>
      cases fl with
      | next => exact False.elim h
      | brk => exact False.elim h
      | cont => exact False.elim h
      | ret u =>
        obtain ⟨v, H', os', bare', un, ok', rv', qv⟩ := h
        obtain rfl : v = .bl true := qv
        obtain rfl : u = Value.bool true := rv'
        refine ⟨rfl, OldK.of_keep fun b o e => ?_, os', bare'⟩
        cases q : H b with
        | none => exact un.keep b o e q (fun z => absurd (show b ∈ ([] : List Addr) from z) (by simp)) (by simp)
        | some u =>
          rcases only b with z | ⟨ob, xs, z⟩
          · rw [q] at z
            cases z
          · obtain ⟨f1, _⟩ := ok b _ z
            obtain ⟨f2, _⟩ := ok' b _ (un.frzs b ob _ z)
            rw [e] at f1
            cases f1
            exact f2
  cases hk : K.lookup a with
  | some o =>
    have e := inK a o hk
    rw [scr] at e
    cases e
    exact main (fun _ => none) (fun _ => .inl rfl) (.inr ⟨_, vs.toArray, _, hk, rfl, rfl, rfl, by rw [List.size_toArray, many]; exact few, by simpa using rel⟩) (fun b u z => nomatch (show (none : Option HO) = some u from z)) (fun b z => absurd rfl z) fun z => absurd rfl z
  | none =>
    refine main (fun b => if b = a then some (.frz { cls := .type "list", data := .seq vs.toArray } (.lst (ns.map V.int))) else none) (fun b => ?_) (.inl (.inr ⟨{ cls := .type "list", data := .seq vs.toArray }, if_pos rfl⟩)) (fun b u z => ?_) (fun b z => ?_) fun _ => hk
    · by_cases eb : b = a
      · exact .inr ⟨_, _, if_pos eb⟩
      · exact .inl (if_neg eb)
    · by_cases eb : b = a
      · have z' := (if_pos eb).symm.trans z
        cases z'
        subst eb
        exact ⟨scr, by rw [List.length_map]; exact few, vs, _, rel, scr⟩
      · have z' := (if_neg eb).symm.trans z
        cases z'
    · by_cases eb : b = a
      · exact eb
      · exact absurd (if_neg eb) z
theorem walk_ofG {l : PySem.W.OpenLaw} {n k : Nat} {q : Program} {loose : List Str} {XP : (Str → Option Value) → Heap → Prop} {YP : World → Heap → Prop} {d : DefRec} {K : Params → PySem.W.Frag} {sp : World → Sp} {x : Str}
    (hn : l.most = some n) (hn2 : n ≤ sizeLine) (hdf : d.params.defaults = []) (hr : Room k callerA) (hY : ∀ (w : World) (h : Heap), YP w h → (K w.params).In h)
    (F : ∀ (w : World) (mg : Str → Option Value) (fa : Addr) (h : Heap), (K w.params).In h → h.Ns mainGlobals mg → mg d.name = some (.ref fa) →
      ∃ fd : FuncData, (∀ (s : Shared) (u : Value), BindsTo s fd ⟨[u], []⟩ [(x, u)]) ∧ ∀ base : Heap, (K w.params).In base → base.Ns mainGlobals mg → FnG l.prog w (K w.params) mg base k fa fd [x] (sp w))
    (want : ∀ (w : World) (H : Hp) (a : Addr) (ns : List Int), ns.length ≤ n → Only H → SqL (K w.params) H a (ns.map V.int) → sp w [.ref a] H (fun v _ => v = .bl true) fun _ _ _ => False) :
    PySem.W.WalkO q loose XP YP l.row.toRowW d [] (fun f vs => PySem.call f vs) := by
  refine Att.attach_call hn hdf fun w s₀ s₁ mg mb fa o pm cd doc a vs ns G Y ho hd hcd hmg hobj hints hlen hg => ?_
  have inK := hY w _ Y
  obtain ⟨fd, hb, hF⟩ := F w mg fa _ inK G.T.g hmg
  exact law_callG inK G.T.g G.T.b G.T.builtins G.T.nolimit hg hobj hints (Nat.le_trans hlen hn2) hr hF hb (fun H only seq => want w H a ns hlen only seq)
theorem end_lawG {P : Program} {w : World} {K : PySem.W.Frag} {mg : Str → Option Value} {fa : Addr} {st : Stmt} {k : Nat} {sp : Sp} (D : Df K mg "law" st) (hb : BindT "law" st ["script"]) (hfa : mg "law" = some (.ref fa))
    (ok : ∀ base : Heap, K.In base → base.Ns mainGlobals mg → OkG P w K mg base k "law" ["script"] sp) :
    ∃ fd : FuncData, (∀ (s : Shared) (v : Value), BindsTo s fd ⟨[v], []⟩ [("script", v)]) ∧ ∀ base : Heap, K.In base → base.Ns mainGlobals mg → FnG P w K mg base k fa fd ["script"] sp := by
  obtain ⟨f, fd, F, hm⟩ := D
  obtain ⟨oc, od, kV, doc, pm, an, cdv, ct, osl, e, lk, _⟩ := F.ex
  have ef : f = fa := Value.ref.inj (Option.some.inj (hm.symm.trans hfa))
  subst ef
  refine ⟨fd, fun s v => ?_, fun base h1 h2 => ?_⟩
  · subst e
    exact .of_eq (hb kV doc pm an cdv ct [v] rfl)
  · obtain ⟨f', fd', X, hm', _, _, oc', od', sl', lk'⟩ := ok base h1 h2
    have ef : f' = f := Value.ref.inj (Option.some.inj (hm'.symm.trans hm))
    subst ef
    rw [lk] at lk'
    have e2 : fd' = fd := by
      have z := congrArg Obj.data (Option.some.inj lk')
      injection z with z
      exact z.symm
    subst e2
    exact X
end FW
set_option Elab.async false
set_option linter.all false
set_option maxRecDepth 100000
set_option maxHeartbeats 4000000
namespace FW
open PySem PySem.Spec PyProof.Rows L2
theorem law_callS {P : Program} {w : World} {K : PySem.W.Frag} {mg mb : Str → Option Value} {k : Nat} {fa a : Addr} {fd : FuncData} {x : Str} {sp : Sp} {s₁ : Shared} {vs : List Value} {ns : List Int}
    (inK : K.In s₁.heap) (top : s₁.heap.Ns mainGlobals mg) (bn : s₁.heap.Ns builtinsNs mb) (bb : ∀ x : Str, x ≠ "__name__" → mb x = bootBuiltins x) (nl : s₁.heap.NoLimit) (gens : s₁.gens = #[])
    (scr : s₁.heap.get? a = some { cls := .type "list", data := .seq vs.toArray }) (theInts : IntsAre vs ns) (few : ns.length ≤ sizeLine) (hr : Room k callerA)
    (smN : ∃ mm, s₁.heap.Ns sysModules mm) (F : ∀ base : Heap, K.In base → base.Ns mainGlobals mg → (∃ o, base.get? sysModules = some o) → FnG P w K mg base k fa fd [x] sp) (bind1 : ∀ (s : Shared) (u : Value), BindsTo s fd ⟨[u], []⟩ [(x, u)])
    (want : ∀ H : Hp, Only H → SqL K H a (ns.map V.int) → sp [.ref a] H (fun v _ => v = .bl true) fun _ _ _ => False) :
    codeAny (model P w) callerA (.call (.ref fa) ⟨[.ref a], []⟩) (fun r s' => r = .ok (.ret (.bool true)) ∧ OldK s₁.heap s'.heap ∧ s'.os = s₁.os ∧ AllBare s'.gens) s₁ := by
  have rel := vals_ints theInts
  have many := theInts.length
  have main : ∀ H : Hp, Only H → SqL K H a (ns.map V.int) → HOk P w H s₁.heap → (∀ b, H b ≠ none → b = a) → (H a ≠ none → K.lookup a = none) →
      codeAny (model P w) callerA (.call (.ref fa) ⟨[.ref a], []⟩) (fun r s' => r = .ok (.ret (.bool true)) ∧ OldK s₁.heap s'.heap ∧ s'.os = s₁.os ∧ AllBare s'.gens) s₁ := by
    intro H only seq ok lone apart
    have hid : ∀ {b : Addr} {o : Obj}, s₁.heap.get? b = some o → H b = none → (hidT s₁.heap H).get? b = some o := fun e n => hidT_get e n
    have nodict : ∀ {b : Addr} {o : Obj} {es : Array DictEntry} {ep : Nat}, s₁.heap.get? b = some o → o.data = .dict es ep → H b = none := by
      intro b o es ep e d
      cases q : H b with
      | none => rfl
      | some u =>
        have eb : b = a := lone b (by rw [q]; exact fun z => nomatch z)
        subst eb
        rw [scr] at e
        cases e
        have d' : Data.seq vs.toArray _ = Data.dict es ep := d
        cases d'
    have nsH : ∀ {b : Addr} {m : Str → Option Value}, s₁.heap.Ns b m → (hidT s₁.heap H).Ns b m := by
      rintro b m ⟨o, es, ep, e, d, r⟩
      exact ⟨o, es, ep, hid e (nodict e d), d, r⟩
    have inB : K.In (hidT s₁.heap H) := fun b o e => hid (inK b o e) (by
      cases q : H b with
      | none => rfl
      | some u =>
        have eb : b = a := lone b (by rw [q]; exact fun z => nomatch z)
        subst eb
        rw [apart (by rw [q]; exact fun z => nomatch z)] at e
        cases e)
    have modB : Mod K mg (hidT s₁.heap H) := by
      obtain ⟨mc, h1, h2⟩ := nl
      exact ⟨inB, nsH top, ⟨mb, nsH bn, bb⟩, ⟨mc, nsH h1, h2⟩⟩
    have e0 : Env0 P w K mg (hidT s₁.heap H) callerA [] s₁ H := ⟨rfl, modB, fun b o e => of_hidT e, Nat.le_of_eq (hidT_size _ _), trivial, fun b hb => absurd (show b ∈ ([] : List Addr) from hb) (by simp), ok, .of_eq gens⟩
    refine codeAny_mono ((F _ inB (nsH top) (let ⟨_, x⟩ := smN; let ⟨o, _, _, e, _⟩ := nsH x; ⟨o, e⟩)).run callerA [] s₁ H ⟨[.ref a], []⟩ [.ref a] [.ref a] _ _ hr rfl e0 (bind1 s₁ (.ref a)) (.cons rfl .nil) (want H only seq)) fun r s' h => ?_
    cases r with
    | error e => exact False.elim h
    | ok fl =>
      cases fl with
      | next => exact False.elim h
      | brk => exact False.elim h
      | cont => exact False.elim h
      | ret u =>
        obtain ⟨v, H', os', bare', un, ok', rv', qv⟩ := h
        obtain rfl : v = .bl true := qv
        obtain rfl : u = Value.bool true := rv'
        refine ⟨rfl, OldK.of_keep fun b o e => ?_, os', bare'⟩
        cases q : H b with
        | none => exact un.keep b o e q (fun z => absurd (show b ∈ ([] : List Addr) from z) (by simp)) (by simp)
        | some u =>
          rcases only b with z | ⟨ob, xs, z⟩
          · rw [q] at z
            cases z
          · obtain ⟨f1, _⟩ := ok b _ z
            obtain ⟨f2, _⟩ := ok' b _ (un.frzs b ob _ z)
            rw [e] at f1
            cases f1
            exact f2
  cases hk : K.lookup a with
  | some o =>
    have e := inK a o hk
    rw [scr] at e
    cases e
    exact main (fun _ => none) (fun _ => .inl rfl) (.inr ⟨_, vs.toArray, _, hk, rfl, rfl, rfl, by rw [List.size_toArray, many]; exact few, by simpa using rel⟩) (fun b u z => nomatch (show (none : Option HO) = some u from z)) (fun b z => absurd rfl z) fun z => absurd rfl z
  | none =>
    refine main (fun b => if b = a then some (.frz { cls := .type "list", data := .seq vs.toArray } (.lst (ns.map V.int))) else none) (fun b => ?_) (.inl (.inr ⟨{ cls := .type "list", data := .seq vs.toArray }, if_pos rfl⟩)) (fun b u z => ?_) (fun b z => ?_) fun _ => hk
    · by_cases eb : b = a
      · exact .inr ⟨_, _, if_pos eb⟩
      · exact .inl (if_neg eb)
    · by_cases eb : b = a
      · have z' := (if_pos eb).symm.trans z
        cases z'
        subst eb
        exact ⟨scr, by rw [List.length_map]; exact few, vs, _, rel, scr⟩
      · have z' := (if_neg eb).symm.trans z
        cases z'
    · by_cases eb : b = a
      · exact eb
      · exact absurd (if_neg eb) z
theorem walk_ofS {l : PySem.W.OpenLaw} {n k : Nat} {q : Program} {loose : List Str} {XP : (Str → Option Value) → Heap → Prop} {YP : World → Heap → Prop} {d : DefRec} {K : Params → PySem.W.Frag} {sp : World → Sp} {x : Str}
    (hi : importsNone q = true) (hn : l.most = some n) (hn2 : n ≤ sizeLine) (hdf : d.params.defaults = []) (hr : Room k callerA) (hY : ∀ (w : World) (h : Heap), YP w h → (K w.params).In h)
    (F : ∀ (w : World) (mg : Str → Option Value) (fa : Addr) (h : Heap), (K w.params).In h → h.Ns mainGlobals mg → mg d.name = some (.ref fa) →
      ∃ fd : FuncData, (∀ (s : Shared) (u : Value), BindsTo s fd ⟨[u], []⟩ [(x, u)]) ∧ ∀ base : Heap, (K w.params).In base → base.Ns mainGlobals mg → (∃ o, base.get? sysModules = some o) → FnG l.prog w (K w.params) mg base k fa fd [x] (sp w))
    (want : ∀ (w : World) (H : Hp) (a : Addr) (ns : List Int), ns.length ≤ n → Only H → SqL (K w.params) H a (ns.map V.int) → sp w [.ref a] H (fun v _ => v = .bl true) fun _ _ _ => False) :
    PySem.W.WalkO q loose XP YP l.row.toRowW d [] (fun f vs => PySem.call f vs) := by
  refine Att.attach_call hn hdf fun w s₀ s₁ mg mb fa o pm cd doc a vs ns G Y ho hd hcd hmg hobj hints hlen hg => ?_
  have inK := hY w _ Y
  obtain ⟨fd, hb, hF⟩ := F w mg fa _ inK G.T.g hmg
  exact law_callS inK G.T.g G.T.b G.T.builtins G.T.nolimit hg hobj hints (Nat.le_trans hlen hn2) hr (let ⟨mm, x, _⟩ := (G.T.seer hi).mods; ⟨mm, x⟩) hF hb (fun H only seq => want w H a ns hlen only seq)
theorem end_lawS {P : Program} {w : World} {K : PySem.W.Frag} {mg : Str → Option Value} {fa : Addr} {st : Stmt} {k : Nat} {sp : Sp} (D : Df K mg "law" st) (hb : BindT "law" st ["script"]) (hfa : mg "law" = some (.ref fa))
    (ok : ∀ base : Heap, K.In base → base.Ns mainGlobals mg → (∃ o, base.get? sysModules = some o) → OkG P w K mg base k "law" ["script"] sp) :
    ∃ fd : FuncData, (∀ (s : Shared) (v : Value), BindsTo s fd ⟨[v], []⟩ [("script", v)]) ∧ ∀ base : Heap, K.In base → base.Ns mainGlobals mg → (∃ o, base.get? sysModules = some o) → FnG P w K mg base k fa fd ["script"] sp := by
  obtain ⟨f, fd, F, hm⟩ := D
  obtain ⟨oc, od, kV, doc, pm, an, cdv, ct, osl, e, lk, _⟩ := F.ex
  have ef : f = fa := Value.ref.inj (Option.some.inj (hm.symm.trans hfa))
  subst ef
  refine ⟨fd, fun s v => ?_, fun base h1 h2 h3 => ?_⟩
  · subst e
    exact .of_eq (hb kV doc pm an cdv ct [v] rfl)
  · obtain ⟨f', fd', X, hm', _, _, oc', od', sl', lk'⟩ := ok base h1 h2 h3
    have ef : f' = f := Value.ref.inj (Option.some.inj (hm'.symm.trans hm))
    subst ef
    rw [lk] at lk'
    have e2 : fd' = fd := by
      have z := congrArg Obj.data (Option.some.inj lk')
      injection z with z
      exact z.symm
    subst e2
    exact X
end FW
set_option Elab.async false
set_option linter.all false
set_option maxRecDepth 100000
set_option maxHeartbeats 4000000
namespace FW
open PySem PySem.Spec PyProof.Rows L2
open Evl (Ex Ev EvT EvA EvL EvU RC RV fresh_back)
/-! ### a tuple turned about -/
section
variable {prog : Program} {w : World} {A : Around} {E : Value → Shared → Prop} {s : Shared}
theorem slice_back {sl : Addr} {t : Tok} {n : Nat} {Q : Int × Int × Nat → Shared → Prop} (hs : s.heap.IsSliceOf sl .none .none (.int (-1) t))
    (h : Q ((n : Int) - 1, -1, n) s) : wpAny (model prog w) A (Builtin.Slice.sliceApplied (.ref sl) (pure (n : Int))) Q E s := by
  obtain ⟨os, hos, hcs, hds⟩ := id hs
  unfold Builtin.Slice.sliceApplied Builtin.Slice.sliceFields
  refine wpAny_bind (wpAny_bind (wpAny_field hos hds (x := .none) rfl (wpAny_bind (wpAny_field hos hds (x := .none) rfl (wpAny_bind (wpAny_field hos hds (x := .int (-1) t) rfl (wpAny_pure ?_)))))))
  refine wpAny_bind (HT.slicePart_ (.int (-1) t) ?_)
  show wpAny _ _ (if ((-1 : Int) == 0) = true then _ else _) _ _ s
  rw [if_neg (by decide)]
  refine wpAny_bind (HT.slicePart_ .none (wpAny_bind (HT.slicePart_ .none (wpAny_bind (wpAny_pure ?_)))))
  show wpAny _ _ (pure ((n : Int) - 1, (-1 : Int), Builtin.Slice.slicePlaces ((n : Int) - 1) (-1) (-1))) _ _ s
  have e : Builtin.Slice.slicePlaces ((n : Int) - 1) (-1) (-1) = n := by
    unfold Builtin.Slice.slicePlaces
    rw [if_neg (by decide)]
    by_cases c : (n : Int) - 1 > -1
    · rw [if_pos c, show ((n : Int) - 1 - -1 - 1) / (- -1) = (n : Int) - 1 by rw [show (- -1 : Int) = 1 by decide, Int.ediv_one]; omega]
      omega
    · rw [if_neg c]
      omega
  rw [e]
  exact wpAny_pure h
theorem fm_congr {α β : Type} {f g : α → Option β} : ∀ {l : List α}, (∀ x ∈ l, f x = g x) → l.filterMap f = l.filterMap g
  | [], _ => rfl
  | x :: l, h => by
    rw [List.filterMap_cons, List.filterMap_cons, h x List.mem_cons_self, fm_congr (l := l) fun y hy => h y (List.mem_cons_of_mem _ hy)]
theorem pick_back (xs : Array Value) : ((List.range xs.size).filterMap fun (k : Nat) => xs[(((xs.size : Nat) : Int) - 1 + (k : Int) * (-1)).toNat]?).toArray = xs.toList.reverse.toArray := by
  have e : (List.range xs.size).filterMap (fun (k : Nat) => xs[(((xs.size : Nat) : Int) - 1 + (k : Int) * (-1)).toNat]?) = ((List.range xs.size).map fun k => xs.size - 1 - k).filterMap (xs[·]?) := by
    rw [List.filterMap_map]
    refine fm_congr fun k hk => ?_
    have := List.mem_range.mp hk
    show xs[(((xs.size : Nat) : Int) - 1 + (k : Int) * (-1)).toNat]? = xs[xs.size - 1 - k]?
    rw [show (((xs.size : Nat) : Int) - 1 + (k : Int) * (-1)).toNat = xs.size - 1 - k by omega]
  rw [e, PySem.W.krv_range, List.filterMap_reverse, PySem.W.krv_all]
theorem getItem_back {t sl : Addr} {items : Array Value} {tk : Tok} {Q : Value → Shared → Prop} (ht : IsTup s.heap t items) (hs : s.heap.IsSliceOf sl .none .none (.int (-1) tk)) (hsz : items.size ≤ sizeLine)
    (h : Q (.ref s.heap.objs.size) { s with heap := s.heap.push { cls := .type "tuple", data := .seq items.toList.reverse.toArray } }) : wpAny (model prog w) A (getItem (.ref t) (.ref sl)) Q E s := by
  have htake : sizeOk (.seq items.toList.reverse.toArray) := by
    show items.toList.reverse.toArray.size ≤ sizeLine
    rw [List.size_toArray, List.length_reverse, Array.length_toList]
    exact hsz
  obtain ⟨os, hos, hcs, hds⟩ := id hs
  have hTs : s.TypeIs (.ref sl) "slice" := ⟨os, hos, hcs⟩
  unfold getItem
  try with_reducible refine wpAny_holding ?_
  first | refine wpAny_bind (wpAny_pure ?_) | skip
  refine wpAny_bind (wpAny_sequenceKey ht.typeIs (by decide) ?_)
  refine wpAny_bind (wpAny_callSpecial?_slot (name := Str.ofString "__getitem__") ht.typeIs PyProof.Rows.slot_tuple_getitem
    (wpAny_call_entry PyProof.Rows.slot_tuple_getitem ht.typeIs entry_tuple_getitem ?_ (args_tuple_getitem _ _)))
  show wpAny _ _ (Builtin.Tuple.tupleItemsOf (.ref t) >>= _) _ _ s
  refine wpAny_bind (tupleItemsOf_ ht ?_)
  refine wpAny_bind (wpAny_typeOf hTs ?_)
  rw [if_pos (by decide)]
  refine wpAny_bind (slice_back hs ?_)
  have hno : ¬ ((((items.size : Nat) : Int) - 1 == 0 && (-1 : Int) == 1 && items.size == items.size) = true) := by
    intro q
    rw [Bool.and_eq_true, Bool.and_eq_true] at q
    exact absurd q.1.2 (by decide)
  show wpAny _ _ (if (((items.size : Nat) : Int) - 1 == 0 && (-1 : Int) == 1 && items.size == items.size) = true then _ else _) _ _ s
  rw [if_neg hno, pick_back]
  first
    | exact wpAny_bind (m := Builtin.Tuple.tupleExact _) (wpAny_newObj_type (wpAny_pure ⟨_, rfl, wpAny_pure h⟩) htake)
    | exact wpAny_bind (m := Builtin.Tuple.tupleExact _) (wpAny_newObj_type (wpAny_bind (wpAny_pure (wpAny_pure ⟨_, rfl, wpAny_pure h⟩))) htake)
    | exact wpAny_bind (wpAny_bind (m := Builtin.Tuple.tupleExact _) (wpAny_newObj_type (wpAny_pure (wpAny_pure ⟨_, rfl, wpAny_pure h⟩)) htake))
    | exact wpAny_bind (wpAny_bind (m := Builtin.Tuple.tupleExact _) (wpAny_newObj_type (wpAny_pure ⟨_, rfl, wpAny_pure h⟩) htake))
end
def tBackT (K : PySem.W.Frag) (te : TE) : TE := fun σ H Q => te σ H fun x H1 => ∃ a xs, x = .ref a ∧ SqT K H1 a xs ∧ ∀ p, H1 p = none → Q (.ref p) (upd H1 p (.tup xs.reverse))
section
variable {X : Cx}
theorem pe_backT {e : Expr} {te : TE} {k : Nat} {p1 p2 p3 pos : Pos} (he : PE X e te) : PE X (.Subscript e (.Slice none none (some (.UnaryOp .USub (.Constant (.int 1) k p1) p2)) p3) pos) (tBackT X.K te) := by
  refine ⟨fun pins s σ H Q I h => ?_⟩
  refine Subscript_ (thn (he.run pins s σ H _ I h) fun v s1 ⟨x, H1, I1, r1, q1⟩ => ?_)
  obtain ⟨a, xs, ex, hx, q⟩ := q1
  subst ex
  cases r1
  have hst : PO X (some (.UnaryOp .USub (.Constant (.int 1) k p1) p2)) (tPart (tUn (rU fun i => .int (-i)) (tC (.int 1)))) := po_some (pe_un un_neg pe_int)
  refine wpAny_Slice (thn (po_none.run pins s1 σ H1 (fun o H2 => o = none ∧ H2 = H1) I1 ⟨rfl, rfl⟩) fun vl s2 ⟨l, H2, I2, pl, el, e2⟩ => ?_)
  subst el e2
  refine thn (po_none.run pins s2 σ H2 (fun o H3 => o = none ∧ H3 = H2) I2 ⟨rfl, rfl⟩) fun vu s3 ⟨u, H3, I3, pu, eu, e3⟩ => ?_
  subst eu e3
  refine thn (hst.run pins s3 σ H3 (fun o H4 => o = some (-1) ∧ H4 = H3) I3 ⟨1, rfl, -1, rfl, rfl, rfl⟩) fun vs s4 ⟨o, H4, I4, ps, eo, e4⟩ => ?_
  subst eo e4
  have I5 : Inv X pins σ H4 { s4 with heap := s4.heap.push { cls := .type "slice", data := .fields #[vl, vu, vs] } } := I4.kept (t' := s4.toks) fun b ob q => Heap.get?_push_of_some _ q
  obtain ⟨its, r, ht, hz⟩ := I5.tuple hx
  have hlen := r.length
  show wpAny (model X.prog X.w) X.A (subscriptTail e (.Slice none none (some (.UnaryOp .USub (.Constant (.int 1) k p1) p2)) p3) (.ref a) (.ref s4.heap.objs.size)) (EP X pins σ Q) X.xe { s4 with heap := s4.heap.push { cls := .type "slice", data := .fields #[vl, vu, vs] } }
  cases pl
  cases pu
  cases ps
  refine tail_any (ops := [.ref a, .ref s4.heap.objs.size]) ht.typeIs (PyProof.Rows.slot_tuple_getitem.lookup) ?_ (by with_unfolding_all rfl)
  refine getItem_back ht (Heap.IsSliceOf.new _ _ _ _) (by rw [List.size_toArray]; omega) ?_
  refine ⟨.ref _, _, I5.laid (t' := s4.toks) (o := .tup xs.reverse) (fun b ob q => Heap.get?_push_of_some _ q) (Nat.le_refl _) ?_, rfl, q _ (I5.hok.fresh (Nat.le_refl _))⟩
  exact ⟨by rw [List.length_reverse]; exact hz, _, r.reverse, IsTup.new _ _⟩
/-! ### x == (), x a tuple -/
def rEqE (K : PySem.W.Frag) : R2 := fun x y H Q => ∃ a b xs, x = .ref a ∧ y = .ref b ∧ SqT K H a xs ∧ SqT K H b [] ∧ Q (.bl (decide (xs.length = 0))) H
theorem op_eqE (hu : X.A.units < cLine) : OpR X (compareOp .Eq) (rEqE X.K) := by
  intro pins s σ H x y v u Q I rx ry h
  obtain ⟨a, b, xs, rfl, rfl, ha, hb, q⟩ := h
  cases rx
  cases ry
  obtain ⟨its, r1, p1, _⟩ := I.tuple ha
  obtain ⟨its2, r2, p2, _⟩ := I.tuple hb
  cases r2
  have hlen := r1.length
  refine PySem.SeqAt.eq_tupleAt (e := fun _ => true) p1 p2 hu (fun j h1 h2 => absurd h2 (by simp)) ⟨.bl (decide (xs.length = 0)), H, I, ?_, q⟩
  have e : ((List.range (min its.toArray.size ([] : List Value).toArray.size)).all (fun _ => true) && its.toArray.size == ([] : List Value).toArray.size) = decide (xs.length = 0) := by
    rw [List.size_toArray, List.size_toArray, hlen]
    cases its <;> simp
  rw [e]
  exact rfl
/-! ### repr of a datum -/
mutual
theorem Da.reads {pins : List (Addr × Obj)} {σ : L2.St} {H : Hp} {s : Shared} (I : Inv X pins σ H s) : ∀ (d : PyData) (v : V) (u : Value), Da H v d → RelV v u → ∃ as, Reads s.heap u d as ∧ ∀ a ∈ as, H a ≠ none
  | .none, _, _, h, r => by
    cases h
    cases r
    exact ⟨_, Reads.none, fun a h => by cases h⟩
  | .bool b, _, _, h, r => by
    cases h
    cases r
    exact ⟨_, Reads.bool b, fun a h => by cases h⟩
  | .int i, _, _, h, r => by
    cases h
    obtain ⟨t, rfl⟩ := r
    exact ⟨_, Reads.int i t, fun a h => by cases h⟩
  | .str x, _, _, h, r => by
    cases h
    obtain ⟨t, rfl⟩ := r
    exact ⟨_, Reads.str x t, fun a h => by cases h⟩
  | .list ds, _, _, h, r => by
    cases h with
    | lst hs ha =>
      cases r
      obtain ⟨its, rv, ⟨o, n, ho, hc, _, hd⟩, _⟩ := I.list (X := X) (.inl (.inl hs))
      obtain ⟨as, hr, hn⟩ := DaAll.reads I ds _ its ha rv
      refine ⟨_, Reads.list ho hc hd hr, fun a ha => ?_⟩
      rcases List.mem_cons.mp ha with rfl | ha
      · rw [hs]
        exact fun z => by cases z
      · exact hn a ha
  | .tuple ds, _, _, h, r => by
    cases h with
    | tup hs ha =>
      cases r
      obtain ⟨its, rv, ⟨o, ho, hc, n, hd⟩, _⟩ := I.tuple (X := X) (.inl (.inl hs))
      obtain ⟨as, hr, hn⟩ := DaAll.reads I ds _ its ha rv
      exact ⟨_, Reads.tuple ho hc hd hr, hn⟩
  | .dict ks, _, _, h, r => by
    cases h with
    | @dic a hs =>
      cases r
      obtain ⟨_, _, vs, rel, ⟨o, es, ep, ho, hc, hd, hr⟩⟩ := dk_of I.hok hs
      cases rel
      have en : es.toList = [] := by
        cases hz : es.toList with
        | nil => rfl
        | cons e r =>
          have := hr.2.1
          rw [hz] at this
          cases this
      refine ⟨_, Reads.dict (kvs := []) ho hc.1 hd (by rw [en]; exact .nil) (by rw [en]; exact .nil), fun b hb => ?_⟩
      simp only [List.mem_cons, List.append_nil, List.not_mem_nil, or_false] at hb
      subst hb
      rw [hs]
      exact fun z => by cases z
theorem DaAll.reads {pins : List (Addr × Obj)} {σ : L2.St} {H : Hp} {s : Shared} (I : Inv X pins σ H s) : ∀ (ds : List PyData) (vs : List V) (us : List Value), DaAll H vs ds → Vals vs us → ∃ as, ReadsAll s.heap us ds as ∧ ∀ a ∈ as, H a ≠ none
  | [], _, _, h, r => by
    cases h
    cases r
    exact ⟨_, ReadsAll.nil, fun a h => by cases h⟩
  | d :: ds, _, _, h, r => by
    cases h with
    | cons h1 h2 =>
      cases r with
      | cons r1 r2 =>
        obtain ⟨as, q1, n1⟩ := Da.reads I d _ _ h1 r1
        obtain ⟨bs, q2, n2⟩ := DaAll.reads I ds _ _ h2 r2
        refine ⟨_, ReadsAll.cons q1 q2, fun a ha => ?_⟩
        rcases List.mem_append.mp ha with ha | ha
        · exact n1 a ha
        · exact n2 a ha
end
structure RepD (d : PyData) : Prop where
  sh : d.showable = true
  dp : d.depth ≤ 60
  ln : d.shown.length ≤ sizeLine
def rReprD : List V → Hp → VK → Prop := fun xs H Q => ∃ (v : V) (d : PyData), xs = [v] ∧ Da H v d ∧ RepD d ∧ Q (.str d.shown) H
theorem call_reprD (hG : X.A.guards = some []) (hu : X.A.units + 64 < cLine) (hS : ∃ o, X.base.get? sysModules = some o) : CallR X (.builtin "repr") rReprD := by
  intro pins s σ H xs us Q I r h
  obtain ⟨v, d, rfl, hd, ⟨hs, hdp, hz⟩, q⟩ := h
  have noS : H sysModules = none := by
    obtain ⟨o, e⟩ := hS
    exact (I.bs _ _ e).2
  cases r with
  | cons r1 r' =>
    cases r'
    cases hd with
    | non =>
      cases r1
      exact P.repr_of_none ⟨.str _, H, I.tok _, ⟨_, rfl⟩, q⟩
    | bl b =>
      cases r1
      refine P.repr_of_bool ⟨.str _, H, I.tok _, ⟨_, rfl⟩, ?_⟩
      cases b <;> exact q
    | int i =>
      obtain ⟨t, rfl⟩ := r1
      exact P.repr_of_int (of_decide_eq_true hs) ⟨.str _, H, I.tok _, ⟨_, rfl⟩, q⟩
    | str x =>
      obtain ⟨t, rfl⟩ := r1
      exact P.repr_of_str ⟨.str _, H, I.tok _, ⟨_, rfl⟩, q⟩ hz
    | lst h1 h2 =>
      obtain ⟨as, rd, hn⟩ := Da.reads I _ _ _ (Da.lst h1 h2) r1
      cases r1
      exact repr_of_reads' rd hs (fun _ m => hn _ m noS) hG (by omega) (fun _ _ e => e) (fun h' u tk hk => ⟨.str _, H, I.kept hk, ⟨_, rfl⟩, q⟩) hz
    | tup h1 h2 =>
      obtain ⟨as, rd, hn⟩ := Da.reads I _ _ _ (Da.tup h1 h2) r1
      cases r1
      exact repr_of_reads' rd hs (fun _ m => hn _ m noS) hG (by omega) (fun _ _ e => e) (fun h' u tk hk => ⟨.str _, H, I.kept hk, ⟨_, rfl⟩, q⟩) hz
    | dic h1 =>
      obtain ⟨as, rd, hn⟩ := Da.reads I _ _ _ (Da.dic h1) r1
      cases r1
      exact repr_of_reads' rd hs (fun _ m => hn _ m noS) hG (by omega) (fun _ _ e => e) (fun h' u tk hk => ⟨.str _, H, I.kept hk, ⟨_, rfl⟩, q⟩) hz
end
end FW
set_option Elab.async false
set_option linter.all false
set_option maxRecDepth 100000
set_option maxHeartbeats 4000000
namespace FW
open PySem PySem.Spec PyProof.Rows L2
open Evl (Ex Ev EvT EvA EvL EvU RC RV fresh_back ev_var ev_c ea_nil ea_cons)
/-! ### what is not in a list of addresses -/
def offL (H : Hp) (S : List Addr) : Hp := fun b => if b ∈ S then none else H b
def AllS (H : Hp) (S : List Addr) : Prop := ∀ s ∈ S, ∃ o, H s = some o
theorem offL_ne {H : Hp} {S : List Addr} {b : Addr} (h : b ∉ S) : offL H S b = H b := if_neg h
theorem offL_in {H : Hp} {S : List Addr} {b : Addr} (h : b ∈ S) : offL H S b = none := if_pos h
theorem offL_some {H : Hp} {S : List Addr} {b : Addr} {o : HO} (e : offL H S b = some o) : b ∉ S ∧ H b = some o := by
  by_cases h : b ∈ S
  · rw [offL_in h] at e
    cases e
  · rw [offL_ne h] at e
    exact ⟨h, e⟩
theorem offL_sub {H : Hp} {S : List Addr} : Same (offL H S) H := fun b o e => (offL_some e).2
theorem offL_of {H : Hp} {S : List Addr} {b : Addr} {o : HO} (e : H b = some o) (h : b ∉ S) : offL H S b = some o := by
  rw [offL_ne h]
  exact e
theorem offL_mono {H H' : Hp} {S : List Addr} (s : Same H H') : Same (offL H S) (offL H' S) := fun b o e => offL_of (s _ _ (offL_some e).2) (offL_some e).1
theorem offL_off {H H' : Hp} {S : List Addr} {p : Addr} (hp : p ∈ S) (s : Same (off H p) (off H' p)) : Same (offL H S) (offL H' S) := fun b o e => by
  obtain ⟨h1, h2⟩ := offL_some e
  have n : b ≠ p := fun z => h1 (z ▸ hp)
  exact offL_of (off_sub _ _ (s _ _ (off_of h2 n))) h1
/-! ### data built beside a pen -/
def EvDa (S : List Addr) (te : TE) (σ : L2.St) (H : Hp) (d : PyData) : Prop := ∀ H1, Ex H H1 → ∀ Q : VK, (∀ v H2, Ex H1 H2 → Da (offL H2 S) v d → Q v H2) → te σ H1 Q
def EvDs (S : List Addr) (ta : TA) (σ : L2.St) (H : Hp) (ds : List PyData) : Prop := ∀ H1, Ex H H1 → ∀ Q : List V → Hp → Prop, (∀ vs H2, Ex H1 H2 → DaAll (offL H2 S) vs ds → Q vs H2) → ta σ H1 Q
/-- a new list of data -/
def EvDl (S : List Addr) (te : TE) (σ : L2.St) (H : Hp) (ds : List PyData) : Prop := ∀ H1, Ex H H1 → ∀ Q : VK, (∀ l xs H2, Ex H1 H2 → DaAll (offL H2 S) xs ds → H2 l = none → Q (.ref l) (upd H2 l (.lst xs))) → te σ H1 Q
/-- a list of data, new or not -/
def EvDw (S : List Addr) (te : TE) (σ : L2.St) (H : Hp) (ds : List PyData) : Prop := ∀ H1, Ex H H1 → ∀ Q : VK, (∀ l xs H2, Ex H1 H2 → H2 l = some (.lst xs) → DaAll (offL H2 S) xs ds → Q (.ref l) H2) → te σ H1 Q
theorem ne_some {H : Hp} {S : List Addr} {a : Addr} (hp : AllS H S) (n : H a = none) : a ∉ S := fun z => by
  obtain ⟨o, h⟩ := hp a z
  rw [n] at h
  cases h
theorem some_ex {H H1 : Hp} {S : List Addr} (hp : AllS H S) (e : Ex H H1) : AllS H1 S := fun s hs => by
  obtain ⟨o, h⟩ := hp s hs
  exact ⟨o, e _ _ h⟩
section
variable {S : List Addr} {σ : L2.St} {H : Hp} {te tb : TE} {ta : TA} {d : PyData} {ds es : List PyData} {v : V} {K : PySem.W.Frag}
theorem EvDa.ex {H' : Hp} (h : EvDa S te σ H d) (e : Ex H H') : EvDa S te σ H' d := fun H1 e1 => h H1 (e.trans e1)
theorem ed_nil : EvDs S tNil σ H [] := fun H1 _ Q q => q [] H1 (Ex.refl _) .nil
theorem ed_cons (h : EvDa S te σ H d) (hr : EvDs S ta σ H ds) : EvDs S (tCons te ta) σ H (d :: ds) := fun H1 e Q q =>
  h H1 e _ fun v H2 e2 dv => hr H2 (e.trans e2) _ fun vs H3 e3 dvs => q (v :: vs) H3 (e2.trans e3) (.cons (dv.ex (offL_mono e3)) dvs)
theorem ed_tup (hp : AllS H S) (h : EvDs S ta σ H ds) (hl : ds.length ≤ 100000) : EvDa S (tTup ta) σ H (.tuple ds) := fun H1 e Q q =>
  h H1 e _ fun vs H2 e2 dvs => ⟨sz_of (by rw [dvs.len]; exact hl), fun a na => q (.ref a) _ (e2.trans (Ex.new na)) (.tup (offL_of upd_same (ne_some (some_ex hp (e.trans e2)) na)) (dvs.ex (offL_mono (same_new na))))⟩
theorem ed_lst (hp : AllS H S) (h : EvDs S ta σ H ds) (hl : ds.length ≤ 100000) : EvDa S (tLst ta) σ H (.list ds) := fun H1 e Q q =>
  h H1 e _ fun vs H2 e2 dvs => ⟨sz_of (by rw [dvs.len]; exact hl), fun a na => q (.ref a) _ (e2.trans (Ex.new na)) (.lst (offL_of upd_same (ne_some (some_ex hp (e.trans e2)) na)) (dvs.ex (offL_mono (same_new na))))⟩
theorem ed_dic (hp : AllS H S) : EvDa S tDNewK σ H (.dict []) := fun H1 e Q q => fun a na => q (.ref a) _ (Ex.new na) (.dic (offL_of upd_same (ne_some (some_ex hp e) na)))
theorem ed_ev (h : Ev te σ H v) (hd : ∀ H', Da H' v d) : EvDa S te σ H d := fun H1 e Q q => h H1 e _ fun H2 e2 => q v H2 e2 (hd _)
theorem ed_int {i : Int} (h : Ev te σ H (.int i)) : EvDa S te σ H (.int i) := ed_ev h fun _ => .int i
theorem ed_i {i : Int} : EvDa S (tC (.int i)) σ H (.int i) := ed_int ev_c
theorem ed_s {x : Str} : EvDa S (tC (.str x)) σ H (.str x) := ed_ev ev_c fun _ => .str x
theorem ed_b {b : Bool} : EvDa S (tC (.bl b)) σ H (.bool b) := ed_ev ev_c fun _ => .bl b
theorem ed_n : EvDa S (tC .non) σ H .none := ed_ev ev_c fun _ => .non
theorem ed_var {i : Nat} (hi : σ[i]? = some (some v)) (hd : Da (offL H S) v d) : EvDa S (tVar i) σ H d := fun H1 e Q q => ⟨v, hi, q v H1 (Ex.refl _) (hd.ex (offL_mono e))⟩
theorem ed_neg {k : Int} : EvDa S (tUn (rU fun i => V.int (-i)) (tC (.int k))) σ H (.int (-k)) := fun H1 e Q q => ⟨k, rfl, q _ H1 (Ex.refl _) (.int _)⟩
theorem dl_lst (h : EvDs S ta σ H ds) (hl : ds.length ≤ 100000) : EvDl S (tLst ta) σ H ds := fun H1 e Q q =>
  h H1 e _ fun vs H2 e2 dvs => ⟨sz_of (by rw [dvs.len]; exact hl), fun a na => q a vs H2 e2 dvs na⟩
theorem dw_new (hp : AllS H S) (h : EvDl S te σ H ds) : EvDw S te σ H ds := fun H1 e Q q =>
  h H1 e _ fun l xs H2 e2 dvs nl => q l xs _ (e2.trans (Ex.new nl)) upd_same (dvs.ex (offL_mono (same_new nl)))
theorem dw_var {i : Nat} {l : Addr} {xs : List V} (hi : σ[i]? = some (some (.ref l))) (hl : H l = some (.lst xs)) (hd : DaAll (offL H S) xs ds) : EvDw S (tVar i) σ H ds := fun H1 e Q q =>
  ⟨.ref l, hi, q l xs H1 (Ex.refl _) (e _ _ hl) (hd.ex (offL_mono e))⟩
theorem dl_cat (ha : EvDw S te σ H ds) (hb : EvDw S tb σ H es) (hz : ds.length + es.length ≤ 100000) : EvDl S (tOp rCat te tb) σ H (ds ++ es) := fun H1 e Q q =>
  ha H1 e _ fun l xs H2 e2 h2 d2 => hb H2 (e.trans e2) _ fun m ys H3 e3 h3 d3 => ⟨l, m, xs, ys, rfl, rfl, e3 _ _ h2, h3, sz_of (by rw [d2.len, d3.len]; exact hz), fun u nu =>
    q u _ H3 (e2.trans e3) ((d2.ex (offL_mono e3)).app d3) nu⟩
theorem q_asgDl {i : Nat} {tz : TS} {D : Ends} (h : EvDl S te σ H ds) (k : ∀ l xs H2, Ex H H2 → DaAll (offL H2 S) xs ds → H2 l = none → tz D (σ.set i (some (.ref l))) (upd H2 l (.lst xs))) : tSeq (tAsg te (gName i)) tz D σ H :=
  h H (Ex.refl _) _ fun l xs H2 e2 d2 nl => k l xs H2 e2 d2 nl
theorem q_asgDa {i : Nat} {tz : TS} {D : Ends} (h : EvDa S te σ H d) (k : ∀ v H2, Ex H H2 → Da (offL H2 S) v d → tz D (σ.set i (some v)) H2) : tSeq (tAsg te (gName i)) tz D σ H :=
  h H (Ex.refl _) _ fun v H2 e2 dv => k v H2 e2 dv
/-! #### parts of tuples -/
theorem DaAll.take : ∀ {n : Nat} {vs : List V} {ds : List PyData}, DaAll H vs ds → DaAll H (vs.take n) (ds.take n)
  | 0, _, _, _ => .nil
  | n + 1, _, _, .nil => .nil
  | n + 1, _, _, .cons h r => .cons h (DaAll.take r)
theorem DaAll.drop : ∀ {n : Nat} {vs : List V} {ds : List PyData}, DaAll H vs ds → DaAll H (vs.drop n) (ds.drop n)
  | 0, _, _, h => h
  | n + 1, _, _, .nil => .nil
  | n + 1, _, _, .cons h r => DaAll.drop (n := n) r
theorem DaAll.rev : ∀ {vs : List V} {ds : List PyData}, DaAll H vs ds → DaAll H vs.reverse ds.reverse
  | _, _, .nil => .nil
  | _, _, .cons h r => by
    rw [List.reverse_cons, List.reverse_cons]
    exact (DaAll.rev r).app (.cons h .nil)
theorem DaAll.rep {vs : List V} {ds : List PyData} (h : DaAll H vs ds) : ∀ n : Nat, DaAll H (List.replicate n vs).flatten (List.replicate n ds).flatten
  | 0 => .nil
  | n + 1 => by
    rw [List.replicate_succ, List.replicate_succ, List.flatten_cons, List.flatten_cons]
    exact h.app (DaAll.rep h n)
theorem Da.tupO {v : V} (h : Da (offL H S) v (.tuple ds)) : ∃ a xs, v = .ref a ∧ H a = some (.tup xs) ∧ DaAll (offL H S) xs ds ∧ a ∉ S := by
  cases h with
  | @tup a xs _ h1 h2 => exact ⟨a, xs, rfl, offL_sub _ _ h1, h2, fun z => by
      rw [offL_in z] at h1
      cases h1⟩
theorem st_h {a : Addr} {xs : List V} (h : H a = some (.tup xs)) : SqT K H a xs := .inl (.inl h)
/-- t[:k] -/
theorem ed_take {i : Nat} (hp : AllS H S) (h : EvDa S te σ H (.tuple ds)) (h1 : Ev tb σ H (.int (i : Int))) :
    EvDa S (tSl (rSlA K) te tNoPart (tPart tb)) σ H (.tuple (ds.take i)) := fun H1 e Q q =>
  h H1 e _ fun v H2 e2 dv => show tPart tb σ H2 (fun u H3 => rSlA K v none u H3 Q) from Evl.eo_some h1 H2 (e.trans e2) _ fun H3 e3 => by
    obtain ⟨a, xs, rfl, ha, hds, nap⟩ := Da.tupO dv
    have hp3 := some_ex hp (e.trans (e2.trans e3))
    have cut : cutV xs none (some (i : Int)) = xs.take i := by
      unfold cutV
      rw [HT.sIx_none, HT.sIx_nat, List.drop_zero, Nat.sub_zero]
      rcases Nat.le_total i xs.length with z | z
      · rw [Nat.min_eq_left z]
      · rw [Nat.min_eq_right z, List.take_of_length_le (Nat.le_refl _), List.take_of_length_le z]
    refine ⟨a, xs, rfl, st_h (e3 _ _ ha), fun w => ?_, fun w t nt => ?_⟩
    · refine q _ H3 (e2.trans e3) ?_
      rw [HT.sIx_none, HT.sIx_nat] at w
      have hl := hds.len
      rw [List.take_of_length_le (by omega)]
      exact dv.ex (offL_mono e3)
    · rw [cut]
      refine q _ _ ((e2.trans e3).trans (Ex.new nt)) (.tup (offL_of upd_same (ne_some hp3 nt)) ?_)
      exact (DaAll.take hds).ex (offL_mono (e3.trans (same_new nt)))
/-- t[k:] -/
theorem ed_drop {i : Nat} (hp : AllS H S) (h : EvDa S te σ H (.tuple ds)) (h1 : Ev tb σ H (.int (i : Int))) :
    EvDa S (tSl (rSlA K) te (tPart tb) tNoPart) σ H (.tuple (ds.drop i)) := fun H1 e Q q =>
  h H1 e _ fun v H2 e2 dv => show tPart tb σ H2 (fun l H3 => rSlA K v l none H3 Q) from Evl.eo_some h1 H2 (e.trans e2) _ fun H3 e3 => by
    obtain ⟨a, xs, rfl, ha, hds, nap⟩ := Da.tupO dv
    have hp3 := some_ex hp (e.trans (e2.trans e3))
    have cut : cutV xs (some (i : Int)) none = xs.drop i := by
      unfold cutV
      rw [HT.sIx_none, HT.sIx_nat]
      rcases Nat.le_total i xs.length with z | z
      · rw [Nat.min_eq_left z, List.take_of_length_le (by rw [List.length_drop]; exact Nat.le_refl _)]
      · rw [Nat.min_eq_right z, List.drop_of_length_le (Nat.le_refl _), List.drop_of_length_le z, List.take_nil]
    refine ⟨a, xs, rfl, st_h (e3 _ _ ha), fun w => ?_, fun w t nt => ?_⟩
    · refine q _ H3 (e2.trans e3) ?_
      rw [HT.sIx_none, HT.sIx_nat] at w
      have hl := hds.len
      have z : ds.drop i = ds := by
        rcases Nat.eq_zero_or_pos i with z | z
        · rw [z, List.drop_zero]
        · have : xs.length = 0 := by omega
          have : ds = [] := List.eq_nil_of_length_eq_zero (by omega)
          rw [this, List.drop_nil]
      rw [z]
      exact dv.ex (offL_mono e3)
    · rw [cut]
      refine q _ _ ((e2.trans e3).trans (Ex.new nt)) (.tup (offL_of upd_same (ne_some hp3 nt)) ?_)
      exact (DaAll.drop hds).ex (offL_mono (e3.trans (same_new nt)))
theorem cat_da {x y : V} (hp : AllS H S) (hx : Da (offL H S) x (.tuple ds)) (hy : Da (offL H S) y (.tuple es)) (hz : ds.length + es.length ≤ 100000) {Q : VK} (q : ∀ v H2, Ex H H2 → Da (offL H2 S) v (.tuple (ds ++ es)) → Q v H2) : rCatA K x y H Q := by
  obtain ⟨a, xs, rfl, ha, hds, _⟩ := Da.tupO hx
  obtain ⟨b, ys, rfl, hb, hes, _⟩ := Da.tupO hy
  refine ⟨a, b, xs, ys, rfl, rfl, st_h ha, st_h hb, sz_of (by rw [hds.len, hes.len]; exact hz), fun w => ?_, fun _ w => ?_, fun _ _ t nt => ?_⟩
  · subst w
    cases hds
    exact q _ H (Ex.refl _) hy
  · subst w
    cases hes
    rw [List.append_nil] at q
    exact q _ H (Ex.refl _) hx
  · exact q _ _ (Ex.new nt) (.tup (offL_of upd_same (ne_some hp nt)) ((hds.app hes).ex (offL_mono (same_new nt))))
theorem ed_cat (hp : AllS H S) (ha : EvDa S te σ H (.tuple ds)) (hb : EvDa S tb σ H (.tuple es)) (hz : ds.length + es.length ≤ 100000) : EvDa S (tOp (rCatA K) te tb) σ H (.tuple (ds ++ es)) := fun H1 e Q q =>
  ha H1 e _ fun x H2 e2 dx => hb H2 (e.trans e2) _ fun y H3 e3 dy => cat_da (some_ex hp (e.trans (e2.trans e3))) (dx.ex (offL_mono e3)) dy hz fun v H4 e4 dv => q v H4 ((e2.trans e3).trans e4) dv
theorem ed_rep {n : Nat} (hp : AllS H S) (ha : EvDa S te σ H (.tuple ds)) (hne : ds ≠ []) (h2 : 2 ≤ n) (hn : n ≤ 1000) (hl : ds.length ≤ 1000) : EvDa S (tOp (rRepT K) te (tC (.int (n : Int)))) σ H (.tuple (List.replicate n ds).flatten) := fun H1 e Q q =>
  ha H1 e _ fun x H2 e2 dx => by
    obtain ⟨a, xs, rfl, hx, hds, _⟩ := Da.tupO dx
    have hlen := hds.len
    refine ⟨a, (n : Int), xs, rfl, rfl, st_h hx, fun z => ?_, by omega, by omega, by omega, fun t nt => ?_⟩
    · subst z
      cases hds
      exact hne rfl
    · rw [Int.toNat_natCast]
      exact q _ _ (e2.trans (Ex.new nt)) (.tup (offL_of upd_same (ne_some (some_ex hp (e.trans e2)) nt)) ((DaAll.rep hds n).ex (offL_mono (same_new nt))))
theorem ed_back (hp : AllS H S) (ha : EvDa S te σ H (.tuple ds)) : EvDa S (tBackT K te) σ H (.tuple ds.reverse) := fun H1 e Q q =>
  ha H1 e _ fun x H2 e2 dx => by
    obtain ⟨a, xs, rfl, hx, hds, _⟩ := Da.tupO dx
    exact ⟨a, xs, rfl, st_h hx, fun t nt => q _ _ (e2.trans (Ex.new nt)) (.tup (offL_of upd_same (ne_some (some_ex hp (e.trans e2)) nt)) ((DaAll.rev hds).ex (offL_mono (same_new nt))))⟩
theorem ed_ix {i : Int} {k : Nat} (ha : EvDa S te σ H (.tuple ds)) (hb : ∀ H1, Ex H H1 → Ev tb σ H1 (.int i)) (hi : i = (k : Int)) (hk : ds[k]? = some d) : EvDa S (tOp (rIxT K) te tb) σ H d := fun H1 e Q q =>
  ha H1 e _ fun x H2 e2 dx => by
    obtain ⟨a, xs, rfl, hx, hds, _⟩ := Da.tupO dx
    refine hb H2 (e.trans e2) H2 (Ex.refl _) _ fun H3 e3 => ?_
    obtain ⟨v, hv, dv⟩ := hds.of hk
    subst hi
    exact ⟨a, xs, (k : Int), v, rfl, rfl, st_h (e3 _ _ hx), atI_nat hv, q v H3 (e2.trans e3) (dv.ex (offL_mono e3))⟩
/-- list(t) -/
theorem ed_listT (hp : AllS H S) (ha : EvDa S te σ H (.tuple ds)) : EvDa S (tCB (fun xs H Q => ∃ p ys, xs = [.ref p] ∧ (SqL K H p ys ∨ SqT K H p ys) ∧ ∀ l, H l = none → Q (.ref l) (upd H l (.lst ys))) (tCons te tNil)) σ H (.list ds) := fun H1 e Q q =>
  ha H1 e _ fun x H2 e2 dx => by
    obtain ⟨a, xs, rfl, hx, hds, _⟩ := Da.tupO dx
    exact ⟨a, xs, rfl, .inr (st_h hx), fun t nt => q _ _ (e2.trans (Ex.new nt)) (.lst (offL_of upd_same (ne_some (some_ex hp (e.trans e2)) nt)) (hds.ex (offL_mono (same_new nt))))⟩
/-- tuple(l) -/
theorem ed_tupL {l : Addr} {xs : List V} (hp : AllS H S) (ha : Ev te σ H (.ref l)) (hl : H l = some (.lst xs)) (hd : DaAll (offL H S) xs ds) : EvDa S (tCB (fun xs H Q => ∃ p ys, xs = [.ref p] ∧ ((SqL K H p ys ∧ ∀ l, H l = none → Q (.ref l) (upd H l (.tup ys))) ∨ (SqT K H p ys ∧ Q (.ref p) H))) (tCons te tNil)) σ H (.tuple ds) := fun H1 e Q q =>
  ha H1 e _ fun H2 e2 => ⟨l, xs, rfl, .inl ⟨.inl (.inl (e2 _ _ (e _ _ hl))), fun t nt => q _ _ (e2.trans (Ex.new nt)) (.tup (offL_of upd_same (ne_some (some_ex hp (e.trans e2)) nt)) (hd.ex (offL_mono ((e.trans e2).trans (same_new nt)))))⟩⟩
end
/-! ### how great data are -/
theorem bulkAll_app : ∀ (a b : List PyData), PyData.bulkAll (a ++ b) = PyData.bulkAll a + PyData.bulkAll b
  | [], b => by rw [List.nil_append]; show _ = 0 + _; omega
  | x :: a, b => by
    rw [List.cons_append]
    show x.bulk + 1 + PyData.bulkAll (a ++ b) = x.bulk + 1 + PyData.bulkAll a + _
    rw [bulkAll_app a b]
    omega
theorem bulkAll_rev : ∀ (a : List PyData), PyData.bulkAll a.reverse = PyData.bulkAll a
  | [] => rfl
  | x :: a => by
    rw [List.reverse_cons, bulkAll_app, bulkAll_rev a]
    show _ + (x.bulk + 1 + 0) = x.bulk + 1 + _
    omega
theorem bulkAll_len : ∀ (a : List PyData), a.length ≤ PyData.bulkAll a
  | [] => Nat.le_refl _
  | x :: a => by
    have := bulkAll_len a
    show a.length + 1 ≤ x.bulk + 1 + PyData.bulkAll a
    omega
theorem bulkAll_rep (a : List PyData) : ∀ n : Nat, PyData.bulkAll (List.replicate n a).flatten = n * PyData.bulkAll a
  | 0 => by rw [Nat.zero_mul]; rfl
  | n + 1 => by rw [List.replicate_succ, List.flatten_cons, bulkAll_app, bulkAll_rep a n, Nat.add_mul, Nat.one_mul, Nat.add_comm]
theorem bulkAll_cut (a : List PyData) (k : Nat) : PyData.bulkAll (a.take k) + PyData.bulkAll (a.drop k) = PyData.bulkAll a := by
  rw [← bulkAll_app, List.take_append_drop]
theorem bulkAll_at {a : List PyData} {k : Nat} {d : PyData} (h : a[k]? = some d) : PyData.bulkAll (a.take k) + (d.bulk + 1) + PyData.bulkAll (a.drop (k + 1)) = PyData.bulkAll a := by
  have z := bulkAll_cut a k
  have e : a.drop k = d :: a.drop (k + 1) := by
    obtain ⟨hl, e⟩ := List.getElem?_eq_some_iff.mp h
    rw [← e]
    exact List.drop_eq_getElem_cons hl
  rw [e] at z
  have : PyData.bulkAll (d :: a.drop (k + 1)) = d.bulk + 1 + PyData.bulkAll (a.drop (k + 1)) := rfl
  omega
/-- what may be shown: leaves are short, depth and bulk bounded, tuples narrow -/
structure Sh (k b : Nat) (d : PyData) : Prop where
  sh : d.showable = true
  ls : d.leavesShort 24 = true
  dp : d.depth ≤ k
  bk : d.bulk ≤ b
theorem Sh.mono {k b k' b' : Nat} {d : PyData} (h : Sh k b d) (hk : k ≤ k') (hb : b ≤ b') : Sh k' b' d := ⟨h.sh, h.ls, Nat.le_trans h.dp hk, Nat.le_trans h.bk hb⟩
/-- the same of lists -/
structure Shs (k b : Nat) (ds : List PyData) : Prop where
  sh : ∀ d ∈ ds, d.showable = true
  ls : ∀ d ∈ ds, d.leavesShort 24 = true
  dp : ∀ d ∈ ds, d.depth ≤ k
  bk : PyData.bulkAll ds ≤ b
theorem shA {ds : List PyData} : PyData.showableAll ds = true ↔ ∀ d ∈ ds, d.showable = true := by
  induction ds with
  | nil => exact ⟨fun _ d h => (by cases h), fun _ => rfl⟩
  | cons x r ih =>
    show (x.showable && PyData.showableAll r) = true ↔ _
    rw [Bool.and_eq_true, ih]
    exact ⟨fun h d hd => (List.mem_cons.mp hd).elim (fun e => e ▸ h.1) (h.2 d), fun h => ⟨h x List.mem_cons_self, fun d hd => h d (List.mem_cons_of_mem _ hd)⟩⟩
theorem lsA {ds : List PyData} : PyData.leavesShortAll 24 ds = true ↔ ∀ d ∈ ds, d.leavesShort 24 = true := by
  induction ds with
  | nil => exact ⟨fun _ d h => (by cases h), fun _ => rfl⟩
  | cons x r ih =>
    show (x.leavesShort 24 && PyData.leavesShortAll 24 r) = true ↔ _
    rw [Bool.and_eq_true, ih]
    exact ⟨fun h d hd => (List.mem_cons.mp hd).elim (fun e => e ▸ h.1) (h.2 d), fun h => ⟨h x List.mem_cons_self, fun d hd => h d (List.mem_cons_of_mem _ hd)⟩⟩
theorem dpA {ds : List PyData} {k : Nat} : PyData.depthAll ds ≤ k ↔ ∀ d ∈ ds, d.depth ≤ k := by
  induction ds with
  | nil => exact ⟨fun _ d h => (by cases h), fun _ => Nat.zero_le _⟩
  | cons x r ih =>
    show max x.depth (PyData.depthAll r) ≤ k ↔ _
    rw [Nat.max_le, ih]
    exact ⟨fun h d hd => (List.mem_cons.mp hd).elim (fun e => e ▸ h.1) (h.2 d), fun h => ⟨h x List.mem_cons_self, fun d hd => h d (List.mem_cons_of_mem _ hd)⟩⟩
theorem Shs.tup {k b : Nat} {ds : List PyData} (h : Shs k b ds) : Sh (k + 1) b (.tuple ds) := ⟨shA.mpr h.sh, lsA.mpr h.ls, Nat.succ_le_succ (dpA.mpr h.dp), h.bk⟩
theorem Shs.lst {k b : Nat} {ds : List PyData} (h : Shs k b ds) : Sh (k + 1) b (.list ds) := ⟨shA.mpr h.sh, lsA.mpr h.ls, Nat.succ_le_succ (dpA.mpr h.dp), h.bk⟩
theorem Sh.tupI {k b : Nat} {ds : List PyData} (h : Sh (k + 1) b (.tuple ds)) : Shs k b ds := ⟨shA.mp h.sh, lsA.mp h.ls, dpA.mp (Nat.le_of_succ_le_succ h.dp), h.bk⟩
theorem Sh.at {k b : Nat} {d : PyData} (h : Sh k b d) : Shs k (b + 1) [d] := ⟨fun x hx => by rw [List.mem_singleton] at hx; subst hx; exact h.sh, fun x hx => by rw [List.mem_singleton] at hx; subst hx; exact h.ls, fun x hx => by rw [List.mem_singleton] at hx; subst hx; exact h.dp, by
  show d.bulk + 1 + 0 ≤ b + 1
  have := h.bk
  omega⟩
theorem Shs.app {k b c : Nat} {ds es : List PyData} (h : Shs k b ds) (g : Shs k c es) : Shs k (b + c) (ds ++ es) :=
  ⟨fun x hx => (List.mem_append.mp hx).elim (h.sh x) (g.sh x), fun x hx => (List.mem_append.mp hx).elim (h.ls x) (g.ls x), fun x hx => (List.mem_append.mp hx).elim (h.dp x) (g.dp x), by
    rw [bulkAll_app]
    have := h.bk
    have := g.bk
    omega⟩
theorem Shs.mono {k b k' b' : Nat} {ds : List PyData} (h : Shs k b ds) (hk : k ≤ k') (hb : b ≤ b') : Shs k' b' ds := ⟨h.sh, h.ls, fun d hd => Nat.le_trans (h.dp d hd) hk, Nat.le_trans h.bk hb⟩
theorem Shs.sub {k b : Nat} {ds es : List PyData} (h : Shs k b ds) (hs : ∀ x ∈ es, x ∈ ds) : Shs k (PyData.bulkAll es) es := ⟨fun x hx => h.sh x (hs x hx), fun x hx => h.ls x (hs x hx), fun x hx => h.dp x (hs x hx), Nat.le_refl _⟩
theorem bulk_mem {d : PyData} : ∀ {ds : List PyData}, d ∈ ds → d.bulk + 1 ≤ PyData.bulkAll ds
  | x :: r, h => by
    show d.bulk + 1 ≤ x.bulk + 1 + PyData.bulkAll r
    rcases List.mem_cons.mp h with rfl | h
    · omega
    · have := bulk_mem h
      omega
theorem Shs.mem {k b : Nat} {ds : List PyData} {d : PyData} (h : Shs k b ds) (hd : d ∈ ds) : Sh k b d := ⟨h.sh d hd, h.ls d hd, h.dp d hd, by
  have := bulk_mem hd
  have := h.bk
  omega⟩
theorem Sh.rep {k b : Nat} {d : PyData} (h : Sh k b d) (hk : k ≤ 60) (hb : b ≤ 600000) : RepD d := by
  refine ⟨h.sh, Nat.le_trans h.dp hk, ?_⟩
  have z := PyData.shown_le_bulk 24 (by decide) d h.ls
  have := h.bk
  have z2 : (24 + 2) * d.bulk ≤ 26 * 600000 := Nat.mul_le_mul (Nat.le_refl _) (by omega)
  rw [sizeLine_eq]
  omega
end FW
set_option Elab.async false
set_option linter.all false
set_option maxRecDepth 100000
set_option maxHeartbeats 4000000
namespace FW
open PySem PySem.Spec PyProof.Rows L2
open Evl (pss_cut tCut)
def topS (i : Nat) : Stmt := PySem.Challenge.pw_firstwake_k01_programs_recognized.main.body.getD i (.Pass ⟨0, 0, 0, 0⟩)
abbrev s_is_integer : Stmt := topS 5
abbrev N_is_integer : List Str := ["thing"]
theorem sc_is_integer : FnScope N_is_integer ["thing"] (defScope s_is_integer) := ⟨rfl, rfl, rfl, by decide +kernel, rfl, by decide +kernel, by decide +kernel⟩
theorem bi_is_integer : BindT "is_integer" s_is_integer ["thing"] := fun _ _ _ _ _ _ us hl => match us, hl with | [_], _ => rfl

abbrev s_is_within : Stmt := topS 6
abbrev N_is_within : List Str := ["thing", "low", "high"]
theorem sc_is_within : FnScope N_is_within ["thing", "low", "high"] (defScope s_is_within) := ⟨rfl, rfl, rfl, by decide +kernel, rfl, by decide +kernel, by decide +kernel⟩
theorem bi_is_within : BindT "is_within" s_is_within ["thing", "low", "high"] := fun _ _ _ _ _ _ us hl => match us, hl with | [_, _, _], _ => rfl

abbrev s_is_number : Stmt := topS 7
abbrev N_is_number : List Str := ["thing"]
theorem sc_is_number : FnScope N_is_number ["thing"] (defScope s_is_number) := ⟨rfl, rfl, rfl, by decide +kernel, rfl, by decide +kernel, by decide +kernel⟩
theorem bi_is_number : BindT "is_number" s_is_number ["thing"] := fun _ _ _ _ _ _ us hl => match us, hl with | [_], _ => rfl

abbrev s_is_index : Stmt := topS 8
abbrev N_is_index : List Str := ["thing", "many"]
theorem sc_is_index : FnScope N_is_index ["thing", "many"] (defScope s_is_index) := ⟨rfl, rfl, rfl, by decide +kernel, rfl, by decide +kernel, by decide +kernel⟩
theorem bi_is_index : BindT "is_index" s_is_index ["thing", "many"] := fun _ _ _ _ _ _ us hl => match us, hl with | [_, _], _ => rfl

abbrev s_is_tuple : Stmt := topS 9
abbrev N_is_tuple : List Str := ["thing", "size"]
theorem sc_is_tuple : FnScope N_is_tuple ["thing", "size"] (defScope s_is_tuple) := ⟨rfl, rfl, rfl, by decide +kernel, rfl, by decide +kernel, by decide +kernel⟩
theorem bi_is_tuple : BindT "is_tuple" s_is_tuple ["thing", "size"] := fun _ _ _ _ _ _ us hl => match us, hl with | [_, _], _ => rfl

abbrev s__kinds : Stmt := topS 34
abbrev N__kinds : List Str := ["word", "in_function"]
theorem sc__kinds : FnScope N__kinds ["word", "in_function"] (defScope s__kinds) := ⟨rfl, rfl, rfl, by decide +kernel, rfl, by decide +kernel, by decide +kernel⟩
theorem bi__kinds : BindT "_kinds" s__kinds ["word", "in_function"] := fun _ _ _ _ _ _ us hl => match us, hl with | [_, _], _ => rfl

abbrev s__shared_limits : Stmt := topS 32
abbrev N__shared_limits : List Str := ["fields"]
theorem sc__shared_limits : FnScope N__shared_limits ["fields"] (defScope s__shared_limits) := ⟨rfl, rfl, rfl, by decide +kernel, rfl, by decide +kernel, by decide +kernel⟩
theorem bi__shared_limits : BindT "_shared_limits" s__shared_limits ["fields"] := fun _ _ _ _ _ _ us hl => match us, hl with | [_], _ => rfl

abbrev s__is_instruction : Stmt := topS 33
abbrev N__is_instruction : List Str := ["thing", "in_function", "limits", "fields", "kinds", "at", "kind", "low", "high"]
theorem sc__is_instruction : FnScope N__is_instruction ["thing", "in_function", "limits", "fields"] (defScope s__is_instruction) := ⟨rfl, rfl, rfl, by decide +kernel, rfl, by decide +kernel, by decide +kernel⟩
theorem bi__is_instruction : BindT "_is_instruction" s__is_instruction ["thing", "in_function", "limits", "fields"] := fun _ _ _ _ _ _ us hl => match us, hl with | [_, _, _, _], _ => rfl

abbrev s__is_initializer : Stmt := topS 30
abbrev N__is_initializer : List Str := ["thing", "fields", "limits", "member"]
theorem sc__is_initializer : FnScope N__is_initializer ["thing", "fields"] (defScope s__is_initializer) := ⟨rfl, rfl, rfl, by decide +kernel, rfl, by decide +kernel, by decide +kernel⟩
theorem bi__is_initializer : BindT "_is_initializer" s__is_initializer ["thing", "fields"] := fun _ _ _ _ _ _ us hl => match us, hl with | [_, _], _ => rfl

abbrev s__is_code : Stmt := topS 31
abbrev N__is_code : List Str := ["thing", "own", "functions", "fields", "limits", "place", "member"]
theorem sc__is_code : FnScope N__is_code ["thing", "own", "functions", "fields"] (defScope s__is_code) := ⟨rfl, rfl, rfl, by decide +kernel, rfl, by decide +kernel, by decide +kernel⟩
theorem bi__is_code : BindT "_is_code" s__is_code ["thing", "own", "functions", "fields"] := fun _ _ _ _ _ _ us hl => match us, hl with | [_, _, _, _], _ => rfl

abbrev s__is_unit : Stmt := topS 28
abbrev N__is_unit : List Str := ["thing", "number", "parent", "fields", "_"]
theorem sc__is_unit : FnScope N__is_unit ["thing", "number"] (defScope s__is_unit) := ⟨rfl, rfl, rfl, by decide +kernel, rfl, by decide +kernel, by decide +kernel⟩
theorem bi__is_unit : BindT "_is_unit" s__is_unit ["thing", "number"] := fun _ _ _ _ _ _ us hl => match us, hl with | [_, _], _ => rfl

abbrev s__are_units : Stmt := topS 27
abbrev N__are_units : List Str := ["thing", "number", "member"]
theorem sc__are_units : FnScope N__are_units ["thing"] (defScope s__are_units) := ⟨rfl, rfl, rfl, by decide +kernel, rfl, by decide +kernel, by decide +kernel⟩
theorem bi__are_units : BindT "_are_units" s__are_units ["thing"] := fun _ _ _ _ _ _ us hl => match us, hl with | [_], _ => rfl

abbrev s__are_functions : Stmt := topS 29
abbrev N__are_functions : List Str := ["thing", "units", "member"]
theorem sc__are_functions : FnScope N__are_functions ["thing", "units"] (defScope s__are_functions) := ⟨rfl, rfl, rfl, by decide +kernel, rfl, by decide +kernel, by decide +kernel⟩
theorem bi__are_functions : BindT "_are_functions" s__are_functions ["thing", "units"] := fun _ _ _ _ _ _ us hl => match us, hl with | [_, _], _ => rfl

abbrev s_is_program : Stmt := topS 21
abbrev N_is_program : List Str := ["thing", "units", "functions", "fields", "unit", "initializers", "codes", "own", "function"]
theorem sc_is_program : FnScope N_is_program ["thing"] (defScope s_is_program) := ⟨rfl, rfl, rfl, by decide +kernel, rfl, by decide +kernel, by decide +kernel⟩
theorem bi_is_program : BindT "is_program" s_is_program ["thing"] := fun _ _ _ _ _ _ us hl => match us, hl with | [_], _ => rfl

abbrev s_is_inputs : Stmt := topS 22
abbrev N_is_inputs : List Str := ["thing", "member"]
theorem sc_is_inputs : FnScope N_is_inputs ["thing"] (defScope s_is_inputs) := ⟨rfl, rfl, rfl, by decide +kernel, rfl, by decide +kernel, by decide +kernel⟩
theorem bi_is_inputs : BindT "is_inputs" s_is_inputs ["thing"] := fun _ _ _ _ _ _ us hl => match us, hl with | [_], _ => rfl

abbrev s_accesses : Stmt := topS 23
abbrev N_accesses : List Str := ["program"]
theorem sc_accesses : FnScope N_accesses ["program"] (defScope s_accesses) := ⟨rfl, rfl, rfl, by decide +kernel, rfl, by decide +kernel, by decide +kernel⟩
theorem bi_accesses : BindT "accesses" s_accesses ["program"] := fun _ _ _ _ _ _ us hl => match us, hl with | [_], _ => rfl

abbrev s_need_program : Stmt := topS 24
abbrev N_need_program : List Str := ["program"]
theorem sc_need_program : FnScope N_need_program ["program"] (defScope s_need_program) := ⟨rfl, rfl, rfl, by decide +kernel, rfl, by decide +kernel, by decide +kernel⟩
theorem bi_need_program : BindT "need_program" s_need_program ["program"] := fun _ _ _ _ _ _ us hl => match us, hl with | [_], _ => rfl

abbrev s__spots_where : Stmt := topS 25
abbrev N__spots_where : List Str := ["program", "words", "body", "code", "place", "instruction"]
theorem sc__spots_where : FnScope N__spots_where ["program", "words"] (defScope s__spots_where) := ⟨rfl, rfl, rfl, by decide +kernel, rfl, by decide +kernel, by decide +kernel⟩
theorem bi__spots_where : BindT "_spots_where" s__spots_where ["program", "words"] := fun _ _ _ _ _ _ us hl => match us, hl with | [_, _], _ => rfl

abbrev s__bodies : Stmt := topS 26
abbrev N__bodies : List Str := ["program", "units", "functions", "codes", "number", "function", "unit"]
theorem sc__bodies : FnScope N__bodies ["program"] (defScope s__bodies) := ⟨rfl, rfl, rfl, by decide +kernel, rfl, by decide +kernel, by decide +kernel⟩
theorem bi__bodies : BindT "_bodies" s__bodies ["program"] := fun _ _ _ _ _ _ us hl => match us, hl with | [_], _ => rfl

abbrev s__law_open : Stmt := topS 36
abbrev N__law_open : List Str := ["script", "cells", "k", "cell"]
theorem sc__law_open : FnScope N__law_open ["script"] (defScope s__law_open) := ⟨rfl, rfl, rfl, by decide +kernel, rfl, by decide +kernel, by decide +kernel⟩
theorem bi__law_open : BindT "_law_open" s__law_open ["script"] := fun _ _ _ _ _ _ us hl => match us, hl with | [_], _ => rfl

abbrev s__law_spread : Stmt := topS 37
abbrev N__law_spread : List Str := ["cell", "at", "primes", "one", "two", "three"]
theorem sc__law_spread : FnScope N__law_spread ["cell", "at"] (defScope s__law_spread) := ⟨rfl, rfl, rfl, by decide +kernel, rfl, by decide +kernel, by decide +kernel⟩
theorem bi__law_spread : BindT "_law_spread" s__law_spread ["cell", "at"] := fun _ _ _ _ _ _ us hl => match us, hl with | [_, _], _ => rfl

abbrev s__law_take : Stmt := topS 38
abbrev N__law_take : List Str := ["pen", "amount", "at", "cell", "found"]
theorem sc__law_take : FnScope N__law_take ["pen", "amount"] (defScope s__law_take) := ⟨rfl, rfl, rfl, by decide +kernel, rfl, by decide +kernel, by decide +kernel⟩
theorem bi__law_take : BindT "_law_take" s__law_take ["pen", "amount"] := fun _ _ _ _ _ _ us hl => match us, hl with | [_, _], _ => rfl

abbrev s__law_same : Stmt := topS 39
abbrev N__law_same : List Str := ["found", "due", "one", "other"]
theorem sc__law_same : FnScope N__law_same ["found", "due"] (defScope s__law_same) := ⟨rfl, rfl, rfl, by decide +kernel, rfl, by decide +kernel, by decide +kernel⟩
theorem bi__law_same : BindT "_law_same" s__law_same ["found", "due"] := fun _ _ _ _ _ _ us hl => match us, hl with | [_, _], _ => rfl

abbrev s__law_one_of : Stmt := topS 40
abbrev N__law_one_of : List Str := ["pen", "some"]
theorem sc__law_one_of : FnScope N__law_one_of ["pen", "some"] (defScope s__law_one_of) := ⟨rfl, rfl, rfl, by decide +kernel, rfl, by decide +kernel, by decide +kernel⟩
theorem bi__law_one_of : BindT "_law_one_of" s__law_one_of ["pen", "some"] := fun _ _ _ _ _ _ us hl => match us, hl with | [_, _], _ => rfl

abbrev s__law_between : Stmt := topS 41
abbrev N__law_between : List Str := ["value", "low", "high"]
theorem sc__law_between : FnScope N__law_between ["value", "low", "high"] (defScope s__law_between) := ⟨rfl, rfl, rfl, by decide +kernel, rfl, by decide +kernel, by decide +kernel⟩
theorem bi__law_between : BindT "_law_between" s__law_between ["value", "low", "high"] := fun _ _ _ _ _ _ us hl => match us, hl with | [_, _, _], _ => rfl

abbrev s__law_number : Stmt := topS 42
abbrev N__law_number : List Str := ["pen"]
theorem sc__law_number : FnScope N__law_number ["pen"] (defScope s__law_number) := ⟨rfl, rfl, rfl, by decide +kernel, rfl, by decide +kernel, by decide +kernel⟩
theorem bi__law_number : BindT "_law_number" s__law_number ["pen"] := fun _ _ _ _ _ _ us hl => match us, hl with | [_], _ => rfl

abbrev s__law_plain_one : Stmt := topS 43
abbrev N__law_plain_one : List Str := ["pen", "heads", "wild", "fields", "unit", "many", "field", "way", "slot", "some"]
theorem sc__law_plain_one : FnScope N__law_plain_one ["pen", "heads", "wild"] (defScope s__law_plain_one) := ⟨rfl, rfl, rfl, by decide +kernel, rfl, by decide +kernel, by decide +kernel⟩
theorem bi__law_plain_one : BindT "_law_plain_one" s__law_plain_one ["pen", "heads", "wild"] := fun _ _ _ _ _ _ us hl => match us, hl with | [_, _, _], _ => rfl

abbrev s__law_any_one : Stmt := topS 44
abbrev N__law_any_one : List Str := ["pen", "heads", "place", "size", "callees", "wild", "way", "slot"]
theorem sc__law_any_one : FnScope N__law_any_one ["pen", "heads", "place", "size", "callees", "wild"] (defScope s__law_any_one) := ⟨rfl, rfl, rfl, by decide +kernel, rfl, by decide +kernel, by decide +kernel⟩
theorem bi__law_any_one : BindT "_law_any_one" s__law_any_one ["pen", "heads", "place", "size", "callees", "wild"] := fun _ _ _ _ _ _ us hl => match us, hl with | [_, _, _, _, _, _], _ => rfl

abbrev s__law_draw_program : Stmt := topS 45
abbrev N__law_draw_program : List Str := ["pen", "many", "wild", "heads", "units", "functions", "k", "unit", "fields", "parent", "body", "count", "number", "size", "callees", "place"]
theorem sc__law_draw_program : FnScope N__law_draw_program ["pen", "many", "wild"] (defScope s__law_draw_program) := ⟨rfl, rfl, rfl, by decide +kernel, rfl, by decide +kernel, by decide +kernel⟩
theorem bi__law_draw_program : BindT "_law_draw_program" s__law_draw_program ["pen", "many", "wild"] := fun _ _ _ _ _ _ us hl => match us, hl with | [_, _, _], _ => rfl

abbrev s__law_body : Stmt := topS 46
abbrev N__law_body : List Str := ["program", "name"]
theorem sc__law_body : FnScope N__law_body ["program", "name"] (defScope s__law_body) := ⟨rfl, rfl, rfl, by decide +kernel, rfl, by decide +kernel, by decide +kernel⟩
theorem bi__law_body : BindT "_law_body" s__law_body ["program", "name"] := fun _ _ _ _ _ _ us hl => match us, hl with | [_, _], _ => rfl

abbrev s__law_unit_of : Stmt := topS 47
abbrev N__law_unit_of : List Str := ["program", "one"]
theorem sc__law_unit_of : FnScope N__law_unit_of ["program", "one"] (defScope s__law_unit_of) := ⟨rfl, rfl, rfl, by decide +kernel, rfl, by decide +kernel, by decide +kernel⟩
theorem bi__law_unit_of : BindT "_law_unit_of" s__law_unit_of ["program", "one"] := fun _ _ _ _ _ _ us hl => match us, hl with | [_, _], _ => rfl

abbrev s__law_accesses : Stmt := topS 48
abbrev N__law_accesses : List Str := ["program", "found", "word", "many", "number", "body", "some", "place"]
theorem sc__law_accesses : FnScope N__law_accesses ["program"] (defScope s__law_accesses) := ⟨rfl, rfl, rfl, by decide +kernel, rfl, by decide +kernel, by decide +kernel⟩
theorem bi__law_accesses : BindT "_law_accesses" s__law_accesses ["program"] := fun _ _ _ _ _ _ us hl => match us, hl with | [_], _ => rfl

abbrev s__law_draw_inputs : Stmt := topS 49
abbrev N__law_draw_inputs : List Str := ["pen", "many", "k"]
theorem sc__law_draw_inputs : FnScope N__law_draw_inputs ["pen", "many"] (defScope s__law_draw_inputs) := ⟨rfl, rfl, rfl, by decide +kernel, rfl, by decide +kernel, by decide +kernel⟩
theorem bi__law_draw_inputs : BindT "_law_draw_inputs" s__law_draw_inputs ["pen", "many"] := fun _ _ _ _ _ _ us hl => match us, hl with | [_, _], _ => rfl

abbrev s__law_odd : Stmt := topS 50
abbrev N__law_odd : List Str := ["pen", "some"]
theorem sc__law_odd : FnScope N__law_odd ["pen"] (defScope s__law_odd) := ⟨rfl, rfl, rfl, by decide +kernel, rfl, by decide +kernel, by decide +kernel⟩
theorem bi__law_odd : BindT "_law_odd" s__law_odd ["pen"] := fun _ _ _ _ _ _ us hl => match us, hl with | [_], _ => rfl

abbrev s__law_bent : Stmt := topS 51
abbrev N__law_bent : List Str := ["pen", "value", "k", "way", "some"]
theorem sc__law_bent : FnScope N__law_bent ["pen", "value"] (defScope s__law_bent) := ⟨rfl, rfl, rfl, by decide +kernel, rfl, by decide +kernel, by decide +kernel⟩
theorem bi__law_bent : BindT "_law_bent" s__law_bent ["pen", "value"] := fun _ _ _ _ _ _ us hl => match us, hl with | [_, _], _ => rfl

abbrev s__law_is_slot : Stmt := topS 52
abbrev N__law_is_slot : List Str := ["value"]
theorem sc__law_is_slot : FnScope N__law_is_slot ["value"] (defScope s__law_is_slot) := ⟨rfl, rfl, rfl, by decide +kernel, rfl, by decide +kernel, by decide +kernel⟩
theorem bi__law_is_slot : BindT "_law_is_slot" s__law_is_slot ["value"] := fun _ _ _ _ _ _ us hl => match us, hl with | [_], _ => rfl

abbrev s__law_is_field : Stmt := topS 53
abbrev N__law_is_field : List Str := ["heads", "unit", "field"]
theorem sc__law_is_field : FnScope N__law_is_field ["heads", "unit", "field"] (defScope s__law_is_field) := ⟨rfl, rfl, rfl, by decide +kernel, rfl, by decide +kernel, by decide +kernel⟩
theorem bi__law_is_field : BindT "_law_is_field" s__law_is_field ["heads", "unit", "field"] := fun _ _ _ _ _ _ us hl => match us, hl with | [_, _, _], _ => rfl

abbrev s__law_is_one : Stmt := topS 54
abbrev N__law_is_one : List Str := ["heads", "value", "number", "where", "word", "rest"]
theorem sc__law_is_one : FnScope N__law_is_one ["heads", "value", "number", "where"] (defScope s__law_is_one) := ⟨rfl, rfl, rfl, by decide +kernel, rfl, by decide +kernel, by decide +kernel⟩
theorem bi__law_is_one : BindT "_law_is_one" s__law_is_one ["heads", "value", "number", "where"] := fun _ _ _ _ _ _ us hl => match us, hl with | [_, _, _, _], _ => rfl

abbrev s__law_are_units : Stmt := topS 55
abbrev N__law_are_units : List Str := ["value", "number", "unit"]
theorem sc__law_are_units : FnScope N__law_are_units ["value"] (defScope s__law_are_units) := ⟨rfl, rfl, rfl, by decide +kernel, rfl, by decide +kernel, by decide +kernel⟩
theorem bi__law_are_units : BindT "_law_are_units" s__law_are_units ["value"] := fun _ _ _ _ _ _ us hl => match us, hl with | [_], _ => rfl

abbrev s__law_are_functions : Stmt := topS 56
abbrev N__law_are_functions : List Str := ["units", "value", "function"]
theorem sc__law_are_functions : FnScope N__law_are_functions ["units", "value"] (defScope s__law_are_functions) := ⟨rfl, rfl, rfl, by decide +kernel, rfl, by decide +kernel, by decide +kernel⟩
theorem bi__law_are_functions : BindT "_law_are_functions" s__law_are_functions ["units", "value"] := fun _ _ _ _ _ _ us hl => match us, hl with | [_, _], _ => rfl

abbrev s__law_is_program : Stmt := topS 57
abbrev N__law_is_program : List Str := ["value", "units", "functions", "heads", "unit", "one", "number", "function", "place"]
theorem sc__law_is_program : FnScope N__law_is_program ["value"] (defScope s__law_is_program) := ⟨rfl, rfl, rfl, by decide +kernel, rfl, by decide +kernel, by decide +kernel⟩
theorem bi__law_is_program : BindT "_law_is_program" s__law_is_program ["value"] := fun _ _ _ _ _ _ us hl => match us, hl with | [_], _ => rfl

abbrev s__law_one_bent : Stmt := topS 58
abbrev N__law_one_bent : List Str := ["pen", "program", "units", "functions", "number", "unit", "body", "place", "heads", "one", "some", "bent"]
theorem sc__law_one_bent : FnScope N__law_one_bent ["pen", "program"] (defScope s__law_one_bent) := ⟨rfl, rfl, rfl, by decide +kernel, rfl, by decide +kernel, by decide +kernel⟩
theorem bi__law_one_bent : BindT "_law_one_bent" s__law_one_bent ["pen", "program"] := fun _ _ _ _ _ _ us hl => match us, hl with | [_, _], _ => rfl

abbrev s_law : Stmt := topS 59
abbrev N_law : List Str := ["script", "pen", "turn", "program", "units", "functions", "unit", "values", "again", "value", "text", "base", "k", "due", "one", "found"]
theorem sc_law : FnScope N_law ["script"] (defScope s_law) := ⟨rfl, rfl, rfl, by decide +kernel, rfl, by decide +kernel, by decide +kernel⟩
theorem bi_law : BindT "law" s_law ["script"] := fun _ _ _ _ _ _ us hl => match us, hl with | [_], _ => rfl

theorem hu64 {k : Nat} {A : Around} (r : Room k A) : A.units + 64 < cLine := by
  have z := r.un
  omega
theorem hu1 {k : Nat} {A : Around} (r : Room k A) : A.units < cLine := by
  have z := r.un
  omega
end FW
set_option Elab.async false
set_option linter.all false
set_option maxRecDepth 100000
set_option maxHeartbeats 4000000
namespace FW
open PySem PySem.Spec PyProof.Rows L2
open Evl (pss_cut tCut)
/-! ### the pen: _law_open, _law_spread, _law_take -/
structure TPen (K : PySem.W.Frag) (mg : Str → Option Value) : Prop where
  b_list : mg "list" = none
  b_enumerate : mg "enumerate" = none
  b_int : mg "int" = none
  b_len : mg "len" = none
  d_open : Df K mg "_law_open" s__law_open
  d_spread : Df K mg "_law_spread" s__law_spread
  d_take : Df K mg "_law_take" s__law_take
section
variable {P : Program} {w : World} {K : PySem.W.Frag} {mg : Str → Option Value} {base : Heap}
def spOpen (K : PySem.W.Frag) : Sp := fun vs H Q _ => ∃ (a : Addr) (ns : List Int), vs = [.ref a] ∧ SqL K H a (ns.map V.int) ∧ ∀ H' p, Same H H' → H p = none → Pen H' p 0 → Q (.ref p) H'
theorem ok_open (T : TPen K mg) : Ok P w K mg base CX0 1 "_law_open" ["script"] (spOpen K) := by
  refine T.d_open.ok sc__law_open bi__law_open (fun vs H Q E h => ?_) (fun cdv A outer s H f vs Q E hr h => ?_)
  · obtain ⟨a, ns, rfl, _⟩ := h
    rfl
  · obtain ⟨a, ns, rfl, hS, q⟩ := h
    refine ⟨_, (pss_cons (ps_set (i := 1) sc__law_open.nd rfl (Or.inl rfl) (pe_callTy call_list_of (by rfl) T.b_list (by decide +kernel) (pa_cons (pe_slice sl_list (pv 0) po_none (po_some pe_int)) pa_nil)))
    (pss_cons (ps_for PassesOwn.never rfl (pi_enum (by rfl) T.b_enumerate (pa_cons (pe_slice sl_list (pv 0) (po_some pe_int) (po_some pe_int)) pa_nil)) (pg_tup rfl (pgs_cons (pg_name (i := 2) sc__law_open.nd rfl (Or.inl rfl)) (pgs_cons (pg_name (i := 3) sc__law_open.nd rfl (Or.inl rfl)) pgs_nil))) (pss_one (ps_asg (pe_op op_add (pe_ix ix_list (pv 1) (pe_op op_mod (pe_callTy call_int1 (by rfl) T.b_int (by decide +kernel) (pa_cons (pv 2) pa_nil)) pe_int) (fun _ _ => rfl)) (pv 3)) (pg_sub (pv 1) (pe_op op_mod (pe_callTy call_int1 (by rfl) T.b_int (by decide +kernel) (pa_cons (pv 2) pa_nil)) pe_int) set_list))))
    (pss_one (ps_ret (pe_lst (pa_cons (pv 1) (pa_cons pe_int (pa_cons pe_int pa_nil)))))))), ?_⟩
    refine ⟨.ref a, rfl, 12, rfl, a, ns.map V.int, rfl, hS, fun s1 n1 => ?_⟩
    refine ⟨s1, _, rfl, .inl (.inl (.inl upd_same)), fun l nl => ?_⟩
    have m1 : Same H (upd H s1 (.lst (cutV (ns.map V.int) none (some 12)))) := same_new n1
    have m2 : Same H (upd (upd H s1 (.lst (cutV (ns.map V.int) none (some 12)))) l (.lst (cutV (ns.map V.int) none (some 12)))) := Same.new m1 nl
    refine ⟨.ref a, rfl, 12, rfl, 63, rfl, a, ns.map V.int, rfl, m2.seq hS, fun s2 n2 => ?_⟩
    have m3 := Same.new m2 n2 (o := .lst (cutV (ns.map V.int) (some 12) (some 63)))
    have e1 : cutV (ns.map V.int) none (some 12) = (ns.take 12).map V.int := cut_to 12
    obtain ⟨ms, e2⟩ := cut_len (ns := ns) (some 12) (some 63)
    have nls : l ≠ s2 := fun e => by
      rw [e] at n2
      rw [upd_same] at n2
      cases n2
    have fl : H l = none := m1.free nl
    refine ⟨s2, _, rfl, .inl (.inl upd_same), ?_⟩
    refine for_it walk_enum (fun i σ H' => ∃ (cs : List Int) (y2 y3 : Option V), σ = [some (.ref a), some (.ref l), y2, y3] ∧ Same H H' ∧ H' l = some (.lst (cs.map V.int)) ∧ cs.length = (ns.take 12).length ∧ H' s2 = some (.lst (cutV (ns.map V.int) (some 12) (some 63))))
      ⟨ns.take 12, none, none, rfl, m3, ?_, rfl, upd_same⟩ (fun i σ H' _ ⟨cs, y2, y3, _, _, _, _, h5⟩ => .inl (.inl h5)) ?_ ?_
    · rw [upd_ne nls, upd_same, e1]
    · rintro i x σ H' H'' hi ⟨cs, y2, y3, rfl, h2, h3, h4, h5⟩ ⟨T', x1, x2, rfl, nT, rfl, f1, f2⟩
      have ex1 : x1 = .int (i : Nat) := (Option.some.inj f1).symm
      subst ex1
      have f2' : (ms.map V.int)[i]? = some x2 := by rw [← e2]; exact f2
      rw [e2, List.length_map] at hi
      obtain ⟨z, hz⟩ := ints_get hi
      have ex2 : x2 = .int z := Option.some.inj (f2'.symm.trans hz)
      subst ex2
      have h12 : 12 < ns.length := Nat.lt_of_not_le fun hle => by
        have := cut_past (ns := ns) (k := 12) (h := 63) hle
        have e3 : ms.map V.int = [] := e2.symm.trans this
        have : ms = [] := List.map_eq_nil_iff.mp e3
        rw [this] at hi
        exact Nat.not_lt_zero _ hi
      have hcl : cs.length = 12 := by rw [h4, List.length_take]; omega
      have j0 : (0 : Int) ≤ (i : Int) % 12 := Int.emod_nonneg _ (by decide)
      have j1 : (i : Int) % 12 < (cs.length : Int) := by rw [hcl]; exact Int.emod_lt_of_pos _ (by decide)
      obtain ⟨c, _, hc⟩ := ints_at j0 j1
      have nTl : l ≠ T' := ne_of_none h3 nT
      have nTs : s2 ≠ T' := ne_of_none h5 nT
      have h3' : (upd H' T' (.tup [V.int (i : Nat), V.int z])) l = some (.lst (cs.map V.int)) := by rw [upd_ne nTl]; exact h3
      refine ⟨T', _, rfl, .inl (.inl upd_same), rfl, _, _, rfl, _, _, rfl, rfl, ?_⟩
      refine ⟨_, rfl, _, rfl, .inl ⟨(i : Nat), rfl, (i : Nat), 12, rfl, rfl, (by show (0 : Int) < 12; decide), l, _, _, .int c, rfl, rfl, .inl (.inl h3'), hc, ?_⟩⟩
      refine ⟨_, rfl, c, z, rfl, rfl, _, rfl, _, rfl, .inl ⟨(i : Nat), rfl, (i : Nat), 12, rfl, rfl, (by show (0 : Int) < 12; decide), l, _, _, ((i : Int) % 12).toNat, rfl, rfl, h3', ?_, ?_⟩⟩
      · rw [List.length_map]
        exact ixN_in j0 j1
      · refine ⟨cs.set ((i : Int) % 12).toNat (c + z), _, _, rfl, fun b o e => ?_, ?_, ?_, ?_⟩
        · have nb : b ≠ l := ne_of_none e fl
          rw [upd_ne nb]
          exact same_new nT _ _ (h2 _ _ e)
        · rw [upd_same, ints_set]
        · rw [List.length_set]
          exact h4
        · rw [upd_ne (fun e => nls e.symm), upd_ne nTs]
          exact h5
    · rintro σ H' ⟨cs, y2, y3, rfl, h2, h3, h4, h5⟩
      refine ⟨_, rfl, sz_of (by show 3 ≤ 100000; decide), fun p np => ?_⟩
      refine q _ p (Same.new h2 np) (h2.free np) ⟨l, cs, 0, 0, upd_same, ?_, ?_, Int.le_refl _, Int.le_refl _⟩
      · rw [upd_ne (ne_of_none h3 np)]
        exact h3
      · rw [h4, List.length_take]
        omega
def spSpread : Sp := fun vs H Q _ => ∃ (cell at' : Int), vs = [.int cell, .int at'] ∧ 0 ≤ at' ∧ at' ≤ 2147483648 ∧ ∀ z H', Same H H' → Q (.int z) H'
theorem primes_at {j : Int} (h0 : 0 ≤ j) (h1 : j < 13) : ∃ z : Int, atI [V.int 2147483629, .int 2147483587, .int 2147483579, .int 2147483563, .int 2147483549, .int 2147483543, .int 2147483497, .int 2147483489, .int 2147483477, .int 2147483423, .int 2147483399, .int 2147483353, .int 2147483323] j = some (.int z) ∧ 0 < z ∧ z < 2147483648 := by
  obtain ⟨z, hm, hz⟩ := ints_at (ns := [2147483629, 2147483587, 2147483579, 2147483563, 2147483549, 2147483543, 2147483497, 2147483489, 2147483477, 2147483423, 2147483399, 2147483353, 2147483323]) h0 h1
  refine ⟨z, hz, ?_⟩
  simp only [List.mem_cons, List.not_mem_nil, or_false] at hm
  omega
theorem ok_spread (T : TPen K mg) : Ok P w K mg base CX0 1 "_law_spread" ["cell", "at"] spSpread := by
  refine T.d_spread.ok sc__law_spread bi__law_spread (fun vs H Q E h => ?_) (fun cdv A outer s H f vs Q E hr h => ?_)
  · obtain ⟨a, b, rfl, _⟩ := h
    rfl
  · obtain ⟨cell, at', rfl, a0, a1, q⟩ := h
    refine ⟨_, (pss_cons (ps_if (pt_cmpR op_ge (pv 0) (pe_op op_pow pe_int pe_int) (nomark _)) (pss_one (ps_ret (pv 0))) pss_nil)
    (pss_cons (ps_set (i := 2) sc__law_spread.nd rfl (Or.inl rfl) (pe_lst (pa_cons pe_int (pa_cons pe_int (pa_cons pe_int (pa_cons pe_int (pa_cons pe_int (pa_cons pe_int (pa_cons pe_int (pa_cons pe_int pa_nil))))))))))
    (pss_cons (ps_set (i := 2) sc__law_spread.nd rfl (Or.inl rfl) (pe_op op_cat (pv 2) (pe_lst (pa_cons pe_int (pa_cons pe_int (pa_cons pe_int (pa_cons pe_int (pa_cons pe_int pa_nil))))))))
    (pss_cons (ps_set (i := 3) sc__law_spread.nd rfl (Or.inl rfl) (pe_op op_add (pe_op op_add (pe_op op_mul (pe_op op_mod (pe_callTy call_int1 (by rfl) T.b_int (by decide +kernel) (pa_cons (pv 0) pa_nil)) pe_int) (pe_op op_add (pe_op op_mul pe_int (pv 1)) pe_int)) (pe_op op_mul (pv 1) pe_int)) pe_int))
    (pss_cons (ps_set (i := 3) sc__law_spread.nd rfl (Or.inl rfl) (pe_op op_mod (pe_callTy call_int1 (by rfl) T.b_int (by decide +kernel) (pa_cons (pe_op op_pow (pv 3) pe_int) pa_nil)) (pe_ix ix_list (pv 2) (pe_op op_mod (pe_callTy call_int1 (by rfl) T.b_int (by decide +kernel) (pa_cons (pv 1) pa_nil)) pe_int) (fun _ _ => rfl))))
    (pss_cons (ps_set (i := 4) sc__law_spread.nd rfl (Or.inl rfl) (pe_op op_mod (pe_callTy call_int1 (by rfl) T.b_int (by decide +kernel) (pa_cons (pe_op op_pow (pe_op op_add (pe_op op_add (pe_op op_mul (pv 3) (pe_op op_add (pv 1) pe_int)) (pe_op op_mod (pe_callTy call_int1 (by rfl) T.b_int (by decide +kernel) (pa_cons (pv 0) pa_nil)) pe_int)) pe_int) pe_int) pa_nil)) (pe_ix ix_list (pv 2) (pe_op op_mod (pe_callTy call_int1 (by rfl) T.b_int (by decide +kernel) (pa_cons (pe_op op_add (pv 1) pe_int) pa_nil)) pe_int) (fun _ _ => rfl))))
    (pss_cons (ps_set (i := 5) sc__law_spread.nd rfl (Or.inl rfl) (pe_op op_mod (pe_callTy call_int1 (by rfl) T.b_int (by decide +kernel) (pa_cons (pe_op op_pow (pe_op op_add (pe_op op_add (pv 4) (pe_op op_mod (pe_callTy call_int1 (by rfl) T.b_int (by decide +kernel) (pa_cons (pv 3) pa_nil)) pe_int)) (pv 1)) pe_int) pa_nil)) (pe_ix ix_list (pv 2) (pe_op op_mod (pe_callTy call_int1 (by rfl) T.b_int (by decide +kernel) (pa_cons (pe_op op_add (pv 1) pe_int) pa_nil)) pe_int) (fun _ _ => rfl))))
    (pss_one (ps_ret (pe_op op_add (pe_op op_mul (pe_op op_add (pe_op op_mul (pv 3) pe_int) (pv 4)) pe_int) (pv 5))))))))))), ?_⟩
    refine ⟨_, rfl, 10, 18, rfl, rfl, ⟨by decide, by decide, by decide⟩, cell, _, rfl, rfl, _, rfl, ite2 (fun _ => ?_) (fun _ => ?_)⟩
    · exact ⟨_, rfl, q cell H (Same.refl _)⟩
    refine ⟨sz_of (by show 8 ≤ 100000; decide), fun l1 n1 => ?_⟩
    refine ⟨_, rfl, sz_of (by show 5 ≤ 100000; decide), fun l2 n2 => ?_⟩
    have n12 : l1 ≠ l2 := fun e => by
      rw [e] at n2
      rw [upd_same] at n2
      cases n2
    refine ⟨l1, l2, _, _, rfl, rfl, (by rw [upd_ne n12]; exact upd_same), upd_same, sz_of (by show 13 ≤ 100000; decide), fun l3 n3 => ?_⟩
    have m3 := fun (o : HO) => Same.new (Same.new (same_new n1) n2) n3 (o := o)
    -- one
    have c0 : 0 ≤ cell % 1000000007 := Int.emod_nonneg _ (by decide)
    have c1 : cell % 1000000007 < 1000000007 := Int.emod_lt_of_pos _ (by decide)
    have d0 : 0 ≤ cell % 65537 := Int.emod_nonneg _ (by decide)
    have d1 : cell % 65537 < 65537 := Int.emod_lt_of_pos _ (by decide)
    refine ⟨_, rfl, .inl ⟨cell, rfl, cell, 1000000007, rfl, rfl, (by show (0 : Int) < 1000000007; decide), ?_⟩⟩
    refine ⟨_, rfl, 2, at', rfl, rfl, .inl ⟨by decide, by decide⟩, _, 69069, rfl, rfl, _, _, rfl, rfl, .inl ⟨by omega, by omega⟩, ?_⟩
    refine ⟨_, rfl, at', 40503, rfl, rfl, .inr ⟨by decide, by decide⟩, _, _, rfl, rfl, _, 977, rfl, rfl, ?_⟩
    have k1 : 0 ≤ cell % 1000000007 * (2 * at' + 69069) := Int.mul_nonneg c0 (by omega)
    have k2 : cell % 1000000007 * (2 * at' + 69069) ≤ 1000000007 * (2 * 2147483648 + 69069) := Int.mul_le_mul (by omega) (by omega) (by omega) (by decide)
    dsimp only
    generalize cell % 1000000007 * (2 * at' + 69069) = u1 at k1 k2 ⊢
    -- one again
    have i0 : (0 : Int) ≤ at' % 13 := Int.emod_nonneg _ (by decide)
    have i1 : at' % 13 < 13 := Int.emod_lt_of_pos _ (by decide)
    obtain ⟨p1, hp1, pa, pb⟩ := primes_at i0 i1
    refine ⟨_, rfl, _, 3, rfl, rfl, ⟨by decide, by decide, by omega⟩, .inl ⟨_, rfl, ?_⟩⟩
    refine ⟨_, rfl, _, rfl, .inl ⟨_, rfl, at', 13, rfl, rfl, (by show (0 : Int) < 13; decide), l3, _, _, _, rfl, rfl, .inl (.inl upd_same), hp1, _, p1, rfl, rfl, pa, ?_⟩⟩
    dsimp only
    generalize ((u1 + at' * 40503 + 977) ^ ((3 : Int).toNat)) = u2
    have o0 : 0 ≤ u2 % p1 := Int.emod_nonneg _ (by omega)
    have o1 : u2 % p1 < 2147483648 := Int.lt_trans (Int.emod_lt_of_pos _ pa) pb
    generalize u2 % p1 = one at o0 o1 ⊢
    -- two
    have j0 : (0 : Int) ≤ (at' + 5) % 13 := Int.emod_nonneg _ (by decide)
    have j1 : (at' + 5) % 13 < 13 := Int.emod_lt_of_pos _ (by decide)
    obtain ⟨p2, hp2, pc, pd⟩ := primes_at j0 j1
    have t1 : 0 ≤ one * (at' + 3) := Int.mul_nonneg o0 (by omega)
    have t2 : one * (at' + 3) ≤ 2147483648 * (2147483648 + 3) := Int.mul_le_mul (by omega) (by omega) (by omega) (by decide)
    refine ⟨_, rfl, _, rfl, at', 3, rfl, rfl, one, _, rfl, rfl, .inl ⟨by omega, by omega⟩, ?_⟩
    refine ⟨_, rfl, .inl ⟨cell, rfl, cell, 65537, rfl, rfl, (by show (0 : Int) < 65537; decide), _, _, rfl, rfl, _, 5, rfl, rfl, _, 5, rfl, rfl, ⟨by decide, by decide, ?_⟩, .inl ⟨_, rfl, ?_⟩⟩⟩
    · generalize one * (at' + 3) = u3 at t1 t2 ⊢
      omega
    refine ⟨_, rfl, _, rfl, at', 5, rfl, rfl, .inl ⟨_, rfl, _, 13, rfl, rfl, (by show (0 : Int) < 13; decide), l3, _, _, _, rfl, rfl, .inl (.inl upd_same), hp2, _, p2, rfl, rfl, pc, ?_⟩⟩
    dsimp only
    generalize ((one * (at' + 3) + cell % 65537 + 5) ^ ((5 : Int).toNat)) = u4
    have w0 : 0 ≤ u4 % p2 := Int.emod_nonneg _ (by omega)
    have w1 : u4 % p2 < 2147483648 := Int.lt_trans (Int.emod_lt_of_pos _ pc) pd
    generalize u4 % p2 = two at w0 w1 ⊢
    -- three
    have g0 : (0 : Int) ≤ (at' + 7) % 13 := Int.emod_nonneg _ (by decide)
    have g1 : (at' + 7) % 13 < 13 := Int.emod_lt_of_pos _ (by decide)
    obtain ⟨p3, hp3, pe, pf⟩ := primes_at g0 g1
    have r0 : 0 ≤ one % 1009 := Int.emod_nonneg _ (by decide)
    have r1 : one % 1009 < 1009 := Int.emod_lt_of_pos _ (by decide)
    refine ⟨_, rfl, _, rfl, .inl ⟨one, rfl, one, 1009, rfl, rfl, (by show (0 : Int) < 1009; decide), two, _, rfl, rfl, _, rfl, _, at', rfl, rfl, _, 3, rfl, rfl, ⟨by decide, by decide, by omega⟩, .inl ⟨_, rfl, ?_⟩⟩⟩
    refine ⟨_, rfl, _, rfl, at', 7, rfl, rfl, .inl ⟨_, rfl, _, 13, rfl, rfl, (by show (0 : Int) < 13; decide), l3, _, _, _, rfl, rfl, .inl (.inl upd_same), hp3, _, p3, rfl, rfl, pe, ?_⟩⟩
    dsimp only
    generalize ((two + one % 1009 + at') ^ ((3 : Int).toNat)) = u5
    generalize u5 % p3 = three
    refine ⟨_, rfl, one, 2147483647, rfl, rfl, .inr ⟨by decide, by decide⟩, _, rfl, _, two, rfl, rfl, _, 2147483647, rfl, rfl, .inr ⟨by decide, by decide⟩, _, rfl, _, three, rfl, rfl, ?_⟩
    exact q _ _ (m3 _)
/-- where the pen's cells stand -/
def cellsOf (H : Hp) (p : Addr) : Option V := match H p with
  | some (.lst (v :: _)) => some v
  | _ => none
def PenT (H H' : Hp) (p : Addr) (B : Nat) : Prop := Pen H' p B ∧ cellsOf H' p = cellsOf H p
/-- _law_take(pen, amount) -/
def spTake : Sp := fun vs H Q _ => ∃ (p : Addr) (n : Int) (B : Nat), vs = [.ref p, .int n] ∧ Pen H p B ∧ B ≤ 1000000000 ∧ 0 < n ∧ n < 1073741824 ∧
  ∀ H' r, Same (off H p) (off H' p) → PenT H H' p (B + 1) → 0 ≤ r → r < n → Q (.int r) H'
theorem ok_take (T : TPen K mg) : Ok P w K mg base CX0 2 "_law_take" ["pen", "amount"] spTake := by
  have G__law_spread : Ok P w K mg base CX0 1 "_law_spread" ["cell", "at"] spSpread := ok_spread T
  refine T.d_take.ok sc__law_take bi__law_take (fun vs H Q E h => ?_) (fun cdv A outer s H f vs Q E hr h => ?_)
  · obtain ⟨p, n, B, rfl, _⟩ := h
    rfl
  · obtain ⟨p, n, B, rfl, ⟨c, cs, at', r, hp, hc, hcl, a0, a1⟩, hB, n0, n1, q⟩ := h
    have ncp : c ≠ p := pen_ne hp hc
    have g0 : ∀ z : Int, atI [V.ref c, .int at', .int z] 0 = some (.ref c) := fun z => rfl
    refine ⟨_, (pss_cut (ps_if (pt_cmpR op_lt (pe_ix ix_list (pv 0) pe_int (fun _ _ => rfl)) (pv 1) (nomark _)) (pss_cons (ps_set (i := 2) sc__law_take.nd rfl (Or.inl rfl) (pe_ix ix_list (pv 0) pe_int (fun _ _ => rfl)))
    (pss_cons (ps_set (i := 3) sc__law_take.nd rfl (Or.inl rfl) pe_int)
    (pss_cut (ps_if (pt_cmpR op_lt (pv 2) (pe_callB call_len_seq (by rfl) T.b_len (by decide +kernel) (pa_cons (pe_ix ix_list (pv 0) pe_int (fun _ _ => rfl)) pa_nil)) (nomark _)) (pss_one (ps_set (i := 3) sc__law_take.nd rfl (Or.inl rfl) (pe_ix ix_list (pe_ix ix_list (pv 0) pe_int (fun _ _ => rfl)) (pv 2) (fun _ _ => rfl)))) (pss_one (ps_if (pt_cmpR op_gt (pe_callB call_len_seq (by rfl) T.b_len (by decide +kernel) (pa_cons (pe_ix ix_list (pv 0) pe_int (fun _ _ => rfl)) pa_nil)) pe_int (nomark _)) (pss_one (ps_set (i := 3) sc__law_take.nd rfl (Or.inl rfl) (pe_op op_mod (pe_callTy call_int1 (by rfl) T.b_int (by decide +kernel) (pa_cons (pe_ix ix_list (pe_ix ix_list (pv 0) pe_int (fun _ _ => rfl)) (pe_op op_mod (pe_callTy call_int1 (by rfl) T.b_int (by decide +kernel) (pa_cons (pe_op op_add (pe_op op_mul (pv 2) pe_int) pe_int) pa_nil)) (pe_callB call_len_seq (by rfl) T.b_len (by decide +kernel) (pa_cons (pe_ix ix_list (pv 0) pe_int (fun _ _ => rfl)) pa_nil))) (fun _ _ => rfl)) pa_nil)) (pe_op op_add (pe_op op_pow pe_int pe_int) (pv 2))))) pss_nil)))
    (pss_cons (ps_asg (pe_op op_add (pv 2) pe_int) (pg_sub (pv 0) pe_int set_list))
    (pss_one (ps_asg (pe_callO G__law_spread (hr.mono (by decide)) (pa_cons (pv 3) (pa_cons (pv 2) pa_nil))) (pg_sub (pv 0) pe_int set_list))))))) pss_nil)
    (pss_cons (ps_set (i := 4) sc__law_take.nd rfl (Or.inl rfl) (pe_op op_mod (pe_callTy call_int1 (by rfl) T.b_int (by decide +kernel) (pa_cons (pe_ix ix_list (pv 0) pe_int (fun _ _ => rfl)) pa_nil)) (pv 1)))
    (pss_cons (ps_asg (pe_op op_fdiv (pe_ix ix_list (pv 0) pe_int (fun _ _ => rfl)) (pv 1)) (pg_sub (pv 0) pe_int set_list))
    (pss_one (ps_ret (pv 4)))))), ?_⟩
    -- behind the first if: the pen with a rest
    refine ⟨fun σ' H' => ∃ (y2 y3 : Option V) (a2 r2 : Int), σ' = [some (.ref p), some (.int n), y2, y3, none] ∧ Same (off H p) (off H' p) ∧ H' p = some (.lst [.ref c, .int a2, .int r2]) ∧ H' c = some (.lst (cs.map V.int)) ∧ 0 ≤ a2 ∧ a2 ≤ (B : Int) + 1, ?_, ?_⟩
    · refine ⟨_, rfl, p, _, 2, _, rfl, rfl, .inl (.inl hp), rfl, _, rfl, r, n, rfl, rfl, _, rfl, ite2 (fun _ => ?_) (fun _ => ?_)⟩
      · -- at = pen[1]; cell = 0
        refine ⟨_, rfl, p, _, 1, _, rfl, rfl, .inl (.inl hp), rfl, ?_⟩
        -- cell
        refine ⟨fun σ' H' => H' = H ∧ ∃ z : Int, σ' = [some (.ref p), some (.int n), some (.int at'), some (.int z), none], ?_, ?_⟩
        · refine ⟨_, rfl, _, rfl, p, _, 0, _, rfl, rfl, .inl (.inl hp), rfl, c, _, rfl, .inl (.inl (.inl hc)), at', _, rfl, rfl, _, rfl, ite2 (fun hlt => ?_) (fun hge => ?_)⟩
          · have hlt := of_decide_eq_true hlt
            rw [List.length_map] at hlt
            obtain ⟨z, _, hz⟩ := ints_at a0 hlt
            exact ⟨_, rfl, p, _, 0, _, rfl, rfl, .inl (.inl hp), rfl, _, rfl, c, _, at', _, rfl, rfl, .inl (.inl hc), hz, rfl, z, rfl⟩
          · refine ⟨_, rfl, p, _, 0, _, rfl, rfl, .inl (.inl hp), rfl, c, _, rfl, .inl (.inl (.inl hc)), _, 0, rfl, rfl, _, rfl, ite2 (fun hgt => ?_) (fun hng => ?_)⟩
            · have hgt := of_decide_eq_true hgt
              rw [List.length_map] at hgt
              have i0 : (0 : Int) ≤ (at' * 5 + 3) % (cs.length : Int) := Int.emod_nonneg _ (by omega)
              have i1 : (at' * 5 + 3) % (cs.length : Int) < (cs.length : Int) := Int.emod_lt_of_pos _ hgt
              obtain ⟨z, _, hz⟩ := ints_at i0 i1
              refine ⟨_, rfl, p, _, 0, _, rfl, rfl, .inl (.inl hp), rfl, _, rfl, at', 5, rfl, rfl, .inr ⟨by decide, by decide⟩, _, 3, rfl, rfl, .inl ⟨_, rfl, ?_⟩⟩
              refine ⟨_, rfl, p, _, 0, _, rfl, rfl, .inl (.inl hp), rfl, c, _, rfl, .inl (.inl (.inl hc)), _, _, rfl, rfl, ?_, c, _, _, _, rfl, rfl, .inl (.inl hc), ?_, .inl ⟨z, rfl, 10, 17, rfl, rfl, ⟨by decide, by decide, by decide⟩, _, rfl, _, at', rfl, rfl, z, _, rfl, rfl, ?_, rfl, _, rfl⟩⟩
              · show (0 : Int) < ((cs.map V.int).length : Int)
                rw [List.length_map]
                exact hgt
              · rw [List.length_map]
                exact hz
              · show (0 : Int) < 10 ^ ((17 : Int).toNat) + at'
                have : (0 : Int) < 10 ^ ((17 : Int).toNat) := by decide
                omega
            · exact ⟨rfl, 0, rfl⟩
        · rintro σ' H' ⟨rfl, z, rfl⟩
          -- pen[1] = at + 1
          refine ⟨_, rfl, at', 1, rfl, rfl, _, rfl, p, _, 1, 1, rfl, rfl, hp, rfl, ?_⟩
          -- pen[2] = _law_spread(cell, at)
          refine ⟨_, rfl, _, rfl, z, at', rfl, a0, by omega, fun z2 H2 s2 => ?_⟩
          have hp2 : H2 p = some (.lst [.ref c, .int (at' + 1), .int r]) := s2 _ _ upd_same
          have hc2 : H2 c = some (.lst (cs.map V.int)) := s2 _ _ (by rw [upd_ne ncp]; exact hc)
          refine ⟨_, rfl, p, _, 2, 2, rfl, rfl, hp2, rfl, some (.int at'), some (.int z), at' + 1, z2, rfl, ?_, upd_same, ?_, by omega, by omega⟩
          · refine off_upd fun b o e => ?_
            have hb : b ≠ p := fun z => by
              subst z
              rw [off_same] at e
              cases e
            rw [off_ne hb] at e ⊢
            exact s2 _ _ (by rw [upd_ne hb]; exact e)
          · rw [upd_ne ncp]
            exact hc2
      · exact ⟨none, none, at', r, rfl, Same.refl _, hp, hc, a0, by omega⟩
    · rintro σ' H' ⟨y2, y3, a2, r2, rfl, hs, hp', hc', b0, b1⟩
      have f0 : 0 ≤ r2 % n := Int.emod_nonneg _ (by omega)
      have f1 : r2 % n < n := Int.emod_lt_of_pos _ n0
      -- found = int(pen[2]) % amount; pen[2] = pen[2] // amount; return found
      refine ⟨_, rfl, p, _, 2, _, rfl, rfl, .inl (.inl hp'), rfl, .inl ⟨r2, rfl, _, rfl, r2, n, rfl, rfl, n0, ?_⟩⟩
      refine ⟨_, rfl, p, _, 2, _, rfl, rfl, .inl (.inl hp'), rfl, _, rfl, r2, n, rfl, rfl, ⟨n0, n1⟩, _, rfl, p, _, 2, 2, rfl, rfl, hp', rfl, ?_⟩
      refine ⟨_, rfl, q _ _ (off_upd hs) ⟨⟨c, cs, a2, r2 / n, upd_same, ?_, hcl, b0, by omega⟩, ?_⟩ f0 f1⟩
      · rw [upd_ne ncp]
        exact hc'
      · unfold cellsOf
        rw [hp, upd_same]
        rfl
end
end FW
set_option Elab.async false
set_option linter.all false
set_option maxRecDepth 100000
set_option maxHeartbeats 4000000
namespace FW
open PySem PySem.Spec PyProof.Rows L2
open Evl (pss_cut tCut)
/-! ### the program's recognizers -/
open Evl (Ex Ev EvT EvA EvL EvU RC RV fresh_back ev_var ev_c ea_nil ea_cons ev_cb ev_op ev_is ev_andV ev_orV ev_notV et_test et_B et_and et_or et_not et_is s_ret s_when q_when q_asg q_asgL q_asgU rv_I0 rv_eq rv_ne rv_ixT rv_ixL)
/-- what the module has written of the words' kinds -/
def KForms (K : PySem.W.Frag) (P : Params) (mg : Str → Option Value) (x : Str) (fm : List (Str × List Str)) : Prop := ∃ p kvs, mg x = some (.ref p) ∧ KD K P p kvs ∧
  Paired (fun (kv : Str × V) (e : Str × List Str) => kv.1 = e.1 ∧ ∃ a, kv.2 = .ref a ∧ ∀ H, SqT K H a (e.2.map V.str)) kvs fm
structure TProg (K : PySem.W.Frag) (P : Params) (mg : Str → Option Value) : Prop where
  b_isinstance : mg "isinstance" = none
  b_int : mg "int" = none
  b_bool : mg "bool" = none
  b_str : mg "str" = none
  b_tuple : mg "tuple" = none
  b_len : mg "len" = none
  b_enumerate : mg "enumerate" = none
  b_all : mg "all" = none
  c_MOST_NUMBER : ∃ t, mg "MOST_NUMBER" = some (.int 65535 t)
  c_MOST_UNITS : ∃ t, mg "MOST_UNITS" = some (.int 6 t)
  c_MOST_FIELDS : ∃ t, mg "MOST_FIELDS" = some (.int 3 t)
  c_MOST_FUNCTIONS : ∃ t, mg "MOST_FUNCTIONS" = some (.int 4 t)
  c_MOST_IN_INITIALIZER : ∃ t, mg "MOST_IN_INITIALIZER" = some (.int 6 t)
  c_MOST_IN_FUNCTION : ∃ t, mg "MOST_IN_FUNCTION" = some (.int 8 t)
  c_LAST_SLOT : ∃ t, mg "LAST_SLOT" = some (.int 2 t)
  f_I : KForms K P mg "FORMS" formsI
  f_F : KForms K P mg "FORMS_IN_FUNCTIONS" formsF
  d_is_integer : Df K mg "is_integer" s_is_integer
  d_is_within : Df K mg "is_within" s_is_within
  d_is_index : Df K mg "is_index" s_is_index
  d_is_tuple : Df K mg "is_tuple" s_is_tuple
  d_kinds : Df K mg "_kinds" s__kinds
  d_shared_limits : Df K mg "_shared_limits" s__shared_limits
  d_is_instruction : Df K mg "_is_instruction" s__is_instruction
  d_is_initializer : Df K mg "_is_initializer" s__is_initializer
  d_is_code : Df K mg "_is_code" s__is_code
  d_is_unit : Df K mg "_is_unit" s__is_unit
  d_are_units : Df K mg "_are_units" s__are_units
  d_are_functions : Df K mg "_are_functions" s__are_functions
  d_is_program : Df K mg "is_program" s_is_program
section
variable {P : Program} {w : World} {K : PySem.W.Frag} {mg : Str → Option Value} {base : Heap}
/-! #### readings -/
theorem ev_chainLe {σ : L2.St} {H : Hp} {ta tb tc : TE} {i j k : Int} (ha : Ev ta σ H (.int i)) (hb : Ev tb σ H (.int j)) (hc : Ev tc σ H (.int k)) :
    Ev (tChain (rI0 fun i j => .bl (decide (i ≤ j))) (rI0 fun i j => .bl (decide (i ≤ j))) ta tb tc) σ H (.bl (decide (i ≤ j) && decide (j ≤ k))) := fun H1 e Q q =>
  ha H1 e _ fun H2 e2 => hb H2 (e.trans e2) _ fun H3 e3 => ⟨i, j, rfl, rfl, _, rfl, by
    by_cases c : i ≤ j
    · rw [decide_eq_true c, Bool.true_and] at q
      rw [if_pos (decide_eq_true c)]
      exact hc H3 ((e.trans e2).trans e3) _ fun H4 e4 => ⟨j, k, rfl, rfl, q H4 ((e2.trans e3).trans e4)⟩
    · rw [decide_eq_false c, Bool.false_and] at q
      rw [if_neg (by rw [decide_eq_false c]; exact Bool.false_ne_true)]
      exact q H3 (e2.trans e3)⟩
/-- len(x), x a tuple, or a list -/
theorem rc_lenT {H : Hp} {a : Addr} {xs : List V} (h : SqT K H a xs) : RC (fun xs H Q => ∃ p ys, xs = [.ref p] ∧ (SqL K H p ys ∨ SqT K H p ys) ∧ Q (.int ys.length) H) [.ref a] H (.int (xs.length : Int)) := fun H1 e Q q =>
  ⟨a, xs, rfl, .inr (Evl.ex_t e h), q H1 (Evl.Ex.refl _)⟩
theorem rc_lenL {H : Hp} {a : Addr} {xs : List V} (h : SqL K H a xs) : RC (fun xs H Q => ∃ p ys, xs = [.ref p] ∧ (SqL K H p ys ∨ SqT K H p ys) ∧ Q (.int ys.length) H) [.ref a] H (.int (xs.length : Int)) := fun H1 e Q q =>
  ⟨a, xs, rfl, .inl (Evl.ex_l e h), q H1 (Evl.Ex.refl _)⟩
theorem rv_isN {H : Hp} {x : V} : RV (fun x y H Q => y = .non ∧ Q (.bl (decide (x = .non))) H) x .non H (.bl (decide (x = .non))) := fun H1 _ _ q => ⟨rfl, q H1 (Evl.Ex.refl _)⟩
/-- isinstance(x, t) of a slot's datum -/
theorem ev_isi {σ : L2.St} {H : Hp} {te : TE} {v : V} {d : PyData} {t : String} (hi : Ev te σ H v) (h : Da H v d) (ht : t = "int" ∨ t = "bool" ∨ t = "str" ∨ t = "tuple" ∨ t = "list") :
    Ev (tCB (rIsi K) (tCons te (tCons (tC (.ty t)) tNil))) σ H (.bl (isTy d t)) := ev_cb (ea_cons hi (ea_cons ev_c ea_nil)) (rc_isi h ht)
theorem ev_lenT {σ : L2.St} {H : Hp} {te : TE} {a : Addr} {xs : List V} (hi : Ev te σ H (.ref a)) (h : SqT K H a xs) : Ev (tCB (fun xs H Q => ∃ p ys, xs = [.ref p] ∧ (SqL K H p ys ∨ SqT K H p ys) ∧ Q (.int ys.length) H) (tCons te tNil)) σ H (.int (xs.length : Int)) :=
  ev_cb (ea_cons hi ea_nil) (rc_lenT h)
theorem ev_lenL {σ : L2.St} {H : Hp} {te : TE} {a : Addr} {xs : List V} (hi : Ev te σ H (.ref a)) (h : SqL K H a xs) : Ev (tCB (fun xs H Q => ∃ p ys, xs = [.ref p] ∧ (SqL K H p ys ∨ SqT K H p ys) ∧ Q (.int ys.length) H) (tCons te tNil)) σ H (.int (xs.length : Int)) :=
  ev_cb (ea_cons hi ea_nil) (rc_lenL h)
theorem Da.tupl {H : Hp} {v : V} {ds : List PyData} (h : Da H v (.tuple ds)) : ∃ a xs, v = .ref a ∧ H a = some (.tup xs) ∧ DaAll H xs ds := by
  cases h with
  | tup h1 h2 => exact ⟨_, _, rfl, h1, h2⟩
theorem st_of {H : Hp} {a : Addr} {xs : List V} (h : H a = some (.tup xs)) : SqT K H a xs := .inl (.inl h)
theorem sl_of {H : Hp} {a : Addr} {xs : List V} (h : H a = some (.lst xs)) : SqL K H a xs := .inl (.inl h)
/-! #### integers, limits, tuples -/
def spInteger : Sp := fun vs H Q _ => ∃ v d, vs = [v] ∧ Da H v d ∧ Ret (.bl (isInt d)) H Q
theorem ok_is_integer (T : TProg K w.params mg) : Ok P w K mg base CX0 1 "is_integer" ["thing"] spInteger := by
  refine T.d_is_integer.ok sc_is_integer bi_is_integer (fun vs H Q E h => ?_) (fun cdv A outer s H f vs Q E hr h => ?_)
  · obtain ⟨v, d, rfl, _⟩ := h
    rfl
  · obtain ⟨v, d, rfl, hd, q⟩ := h
    refine ⟨_, (pss_one (ps_ret (pe_and (pe_callB call_isi (by rfl) T.b_isinstance (by decide +kernel) (pa_cons (pv 0) (pa_cons (pe_bltn (by rfl) T.b_int (by decide +kernel) (v := .ty "int") rfl) pa_nil))) (pe_one (pe_not (pe_callB call_isi (by rfl) T.b_isinstance (by decide +kernel) (pa_cons (pv 0) (pa_cons (pe_bltn (by rfl) T.b_bool (by decide +kernel) (v := .ty "bool") rfl) pa_nil)))))))), ?_⟩
    refine s_ret (ev_is (ev_andV (ev_isi (ev_var rfl) hd (.inl rfl)) fun _ => ev_notV (ev_isi (ev_var rfl) hd (.inr (.inl rfl)))) ?_) q
    rw [ty_int, ty_bool]
    cases d <;> rfl
def spWithin : Sp := fun vs H Q _ => ∃ v d lo hi, vs = [v, .int lo, .int hi] ∧ Da H v d ∧ Ret (.bl (isIn d lo hi)) H Q
theorem ok_is_within (T : TProg K w.params mg) : Ok P w K mg base CX0 2 "is_within" ["thing", "low", "high"] spWithin := by
  have G_is_integer : Ok P w K mg base CX0 1 "is_integer" ["thing"] spInteger := ok_is_integer T
  refine T.d_is_within.ok sc_is_within bi_is_within (fun vs H Q E h => ?_) (fun cdv A outer s H f vs Q E hr h => ?_)
  · obtain ⟨v, d, lo, hi, rfl, _⟩ := h
    rfl
  · obtain ⟨v, d, lo, hi, rfl, hd, q⟩ := h
    refine ⟨_, (pss_one (ps_ret (pe_and (pe_callO G_is_integer (hr.mono (by decide)) (pa_cons (pv 0) pa_nil)) (pe_one (pe_chain op_le op_le (pv 1) (pv 0) (pv 2)))))), ?_⟩
    refine s_ret (ev_is (ev_andV (b := isIn d lo hi) (sv_ret (z := .bl (isInt d)) (fun H1 e Q q => ⟨v, d, rfl, hd.ex e, q⟩) (ea_cons (ev_var rfl) ea_nil)) fun hb => ?_) ?_) q
    · cases hd with
      | int i => exact ev_chainLe (ev_var rfl) (ev_var rfl) (ev_var rfl)
      | _ => cases hb
    · cases d <;> rfl
def spIndex : Sp := fun vs H Q _ => ∃ v d n, vs = [v, .int n] ∧ Da H v d ∧ Ret (.bl (isIn d 0 (n - 1))) H Q
theorem ok_is_index (T : TProg K w.params mg) : Ok P w K mg base CX0 3 "is_index" ["thing", "many"] spIndex := by
  have G_is_within : Ok P w K mg base CX0 2 "is_within" ["thing", "low", "high"] spWithin := ok_is_within T
  refine T.d_is_index.ok sc_is_index bi_is_index (fun vs H Q E h => ?_) (fun cdv A outer s H f vs Q E hr h => ?_)
  · obtain ⟨v, d, n, rfl, _⟩ := h
    rfl
  · obtain ⟨v, d, n, rfl, hd, q⟩ := h
    refine ⟨_, (pss_one (ps_ret (pe_callO G_is_within (hr.mono (by decide)) (pa_cons (pv 0) (pa_cons pe_int (pa_cons (pe_op op_sub (pv 1) pe_int) pa_nil)))))), ?_⟩
    exact s_ret (sv_ret (fun H1 e Q q => ⟨v, d, 0, n - 1, rfl, hd.ex e, q⟩) (ea_cons (ev_var rfl) (ea_cons ev_c (ea_cons (ev_op (ev_var rfl) ev_c rv_I0) ea_nil)))) q
def spTuple : Sp := fun vs H Q _ => ∃ v d n, vs = [v, .int n] ∧ Da H v d ∧ Ret (.bl (isTup d n)) H Q
theorem ok_is_tuple (T : TProg K w.params mg) : Ok P w K mg base CX0 1 "is_tuple" ["thing", "size"] spTuple := by
  refine T.d_is_tuple.ok sc_is_tuple bi_is_tuple (fun vs H Q E h => ?_) (fun cdv A outer s H f vs Q E hr h => ?_)
  · obtain ⟨v, d, n, rfl, _⟩ := h
    rfl
  · obtain ⟨v, d, n, rfl, hd, q⟩ := h
    refine ⟨_, (pss_one (ps_ret (pe_and (pe_callB call_isi (by rfl) T.b_isinstance (by decide +kernel) (pa_cons (pv 0) (pa_cons (pe_bltn (by rfl) T.b_tuple (by decide +kernel) (v := .ty "tuple") rfl) pa_nil))) (pe_one (pe_cmpR op_eq (pe_callB call_len_seq (by rfl) T.b_len (by decide +kernel) (pa_cons (pv 0) pa_nil)) (pv 1) (nomark _)))))), ?_⟩
    refine s_ret (ev_is (ev_andV (b := isTup d n) (ev_isi (ev_var rfl) hd (.inr (.inr (.inr (.inl rfl))))) fun hb => ?_) ?_) q
    · cases hd with
      | @tup a xs ds h1 h2 =>
        refine ev_is (ev_op (ev_lenT (ev_var rfl) (st_of h1)) (ev_var rfl) (rv_eq rfl)) ?_
        rw [h2.len]
        show V.bl (decide (V.int _ = V.int n)) = V.bl (decide (_ = n))
        simp
      | _ => rw [ty_tuple] at hb; cases hb
    · rw [ty_tuple]
      cases d <;> rfl
/-! #### the words' kinds -/
def KindsV (K : PySem.W.Frag) (v : V) : Option (List Str) → Prop
  | none => v = .non
  | some ks => ∃ a, v = .ref a ∧ ∀ H, SqT K H a (ks.map V.str)
def spKindsOf (K : PySem.W.Frag) : Sp := fun vs H Q _ => ∃ x b, vs = [.str x, .bl b] ∧ ∀ v, KindsV K v (kindsOf b x) → Ret v H Q
theorem forms_look {kvs : List (Str × V)} {fm : List (Str × List Str)} (h : Paired (fun (kv : Str × V) (e : Str × List Str) => kv.1 = e.1 ∧ ∃ a, kv.2 = .ref a ∧ ∀ H, SqT K H a (e.2.map V.str)) kvs fm) (x : Str) :
    (kvs.lookup x = none ∧ fm.lookup x = none) ∨ ∃ v ks, kvs.lookup x = some v ∧ fm.lookup x = some ks ∧ KindsV K v (some ks) := by
  induction h with
  | nil => exact .inl ⟨rfl, rfl⟩
  | @cons kv e kvs fm h _ ih =>
    obtain ⟨h1, a, h2, h3⟩ := h
    obtain ⟨k, v⟩ := kv
    obtain ⟨k', ks⟩ := e
    dsimp only at h1 h2 h3
    subst h1
    simp only [List.lookup]
    cases c : x == k with
    | true => exact .inr ⟨v, ks, rfl, rfl, a, h2, h3⟩
    | false => exact ih
theorem ok_kinds (T : TProg K w.params mg) : Ok P w K mg base CX0 1 "_kinds" ["word", "in_function"] (spKindsOf K) := by
  obtain ⟨pI, kI, gI, KI, fI⟩ := T.f_I
  obtain ⟨pF, kF, gF, KF, fF⟩ := T.f_F
  refine T.d_kinds.ok sc__kinds bi__kinds (fun vs H Q E h => ?_) (fun cdv A outer s H f vs Q E hr h => ?_)
  · obtain ⟨x, b, rfl, _⟩ := h
    rfl
  · obtain ⟨x, b, rfl, q⟩ := h
    refine ⟨_, (pss_cons (ps_if (pt_cmpR op_inKD (pv 0) (pe_refg gI) (by rfl)) (pss_one (ps_ret (pe_ix ix_KD (pe_refg gI) (pv 0) (fun _ _ => rfl)))) pss_nil)
    (pss_cons (ps_if (PW.pt (pw_and (pt_val (pv 1)) (pw_and1 (pt_cmpR op_inKD (pv 0) (pe_refg gF) (by rfl))))) (pss_one (ps_ret (pe_ix ix_KD (pe_refg gF) (pv 0) (fun _ _ => rfl)))) pss_nil)
    (pss_one (ps_ret pe_non)))), ?_⟩
    have inD : ∀ {p : Addr} {kvs : List (Str × V)} (_ : KD K w.params p kvs) {σ : L2.St} {H : Hp}, σ[0]? = some (some (.str x)) → EvT (tTest (tOp (rInKD K w) (tVar 0) (tC (.ref p)))) σ H (kvs.lookup x).isSome := fun {p kvs} kd {σ H} h0 =>
      et_test (ev_op (ev_var h0) ev_c fun H1 _ _ q => ⟨p, x, kvs, rfl, rfl, kd, q H1 (Evl.Ex.refl _)⟩)
    have ixD : ∀ {p : Addr} {kvs : List (Str × V)} (_ : KD K w.params p kvs) {v : V} {σ : L2.St} {H : Hp}, kvs.lookup x = some v → σ[0]? = some (some (.str x)) → Ev (tOp (rIxKD K w) (tC (.ref p)) (tVar 0)) σ H v := fun {p kvs} kd {v σ H} hv h0 =>
      ev_op ev_c (ev_var h0) fun H1 _ _ q => ⟨p, x, kvs, v, rfl, rfl, kd, hv, q H1 (Evl.Ex.refl _)⟩
    rcases forms_look fI x with ⟨n1, n2⟩ | ⟨v, ks, e1, e2, kv⟩
    · refine q_when (inD KI rfl) (fun hb => by rw [n1] at hb; cases hb) fun _ H1 x1 => ?_
      rcases forms_look fF x with ⟨n3, n4⟩ | ⟨v, ks, e3, e4, kv⟩
      · refine q_when (b := false) (et_is (et_and (et_B (ev_var (v := .bl b) rfl)) fun _ => inD KF rfl) (by rw [n3, Option.isSome_none, Bool.and_false])) (fun hb => by cases hb) fun _ H2 x2 => ?_
        refine s_ret ev_c fun H3 x3 => q .non ?_ H3 ((x1.trans x2).trans x3)
        unfold kindsOf
        rw [n2, n4, Option.isSome_none, Bool.and_false, if_neg Bool.false_ne_true, if_neg Bool.false_ne_true]
        rfl
      · refine q_when (b := b) (et_is (et_and (et_B (ev_var (v := .bl b) rfl)) fun _ => inD KF rfl) (by rw [e3, Option.isSome_some, Bool.and_true])) (fun hb H2 x2 => ?_) fun hb H2 x2 => ?_
        · refine s_ret (ixD KF e3 rfl) fun H3 x3 => q v ?_ H3 ((x1.trans x2).trans x3)
          unfold kindsOf
          rw [n2, e4, hb, Option.isSome_none, if_neg Bool.false_ne_true, Option.isSome_some, Bool.and_true, if_pos rfl]
          exact kv
        · refine s_ret ev_c fun H3 x3 => q .non ?_ H3 ((x1.trans x2).trans x3)
          unfold kindsOf
          rw [n2, hb, Option.isSome_none, Bool.false_and, if_neg Bool.false_ne_true, if_neg Bool.false_ne_true]
          rfl
    · refine q_when (inD KI rfl) (fun _ H1 x1 => ?_) fun hb => by rw [e1] at hb; cases hb
      refine s_ret (ixD KI e1 rfl) fun H2 x2 => q v ?_ H2 (x1.trans x2)
      unfold kindsOf
      rw [e2, Option.isSome_some, if_pos rfl]
      exact kv
/-! #### limits -/
/-- the dict at a tells the limits -/
def Lim (H : Hp) (a : Addr) (l : Lims) (n : Nat) : Prop := ∃ kvs : List (Key × V), H a = some (.dK kvs) ∧ kvs.length ≤ n ∧ ∀ (k : Str) (lo hi : Int), l.lookup k = some (lo, hi) → ∃ t, valV kvs (Sum.inr k) = some (.ref t) ∧ H t = some (.tup [.int lo, .int hi])
theorem Lim.ex {H H' : Hp} {a : Addr} {l : Lims} {n : Nat} (h : Lim H a l n) (e : Ex H H') : Lim H' a l n := by
  obtain ⟨kvs, h1, h0, h2⟩ := h
  exact ⟨kvs, e _ _ h1, h0, fun k lo hi q => by
    obtain ⟨t, h3, h4⟩ := h2 k lo hi q
    exact ⟨t, h3, e _ _ h4⟩⟩
/-- a dict's entry set anew -/
theorem Lim.put {H : Hp} {a t : Addr} {l : Lims} {n : Nat} {k : Str} {lo hi : Int} (L : Lim H a l n) (ht : H t = some (.tup [.int lo, .int hi])) {l' : Lims} (hl : ∀ (j : Str) (x : Int × Int), l'.lookup j = some x → if j = k then x = (lo, hi) else l.lookup j = some x) (hn : n ≤ 1000) :
    ∃ H', DPut H a (.str k) (.ref t) H' ∧ Lim H' a l' (n + 1) ∧ ∀ o b, b ≠ a → H b = some o → H' b = some o := by
  obtain ⟨kvs, h1, h0, h2⟩ := L
  refine ⟨_, DPut.k (k := Sum.inr k) h1 (sz_lt (by omega)), ?_, fun o b hb e => by rw [upd_ne hb]; exact e⟩
  refine ⟨_, upd_same, ?_, fun j lo' hi' q => ?_⟩
  · unfold putK
    split
    · rw [List.length_map]
      omega
    · rw [List.length_append]
      show kvs.length + 1 ≤ n + 1
      omega
  · have z := hl j _ q
    have nt : ∀ {b : Addr} {xs : List V}, H b = some (.tup xs) → b ≠ a := fun hb e => by
      subst e
      rw [h1] at hb
      cases hb
    rw [valV_put]
    by_cases c : j = k
    · rw [if_pos c] at z
      cases z
      subst c
      refine ⟨t, if_pos rfl, ?_⟩
      rw [upd_ne (nt ht)]
      exact ht
    · rw [if_neg c] at z
      obtain ⟨u, h3, h4⟩ := h2 j _ _ z
      refine ⟨u, ?_, ?_⟩
      · rw [if_neg fun e => c (Sum.inr.inj e)]
        exact h3
      · rw [upd_ne (nt h4)]
        exact h4
def spLims : Sp := fun vs H Q _ => ∃ (fa : Addr) (fs : List Int), vs = [.ref fa] ∧ H fa = some (.lst (fs.map V.int)) ∧ ∀ H2 p, H p = none → Ex H H2 → Lim H2 p (limsI fs.length) 3 → Q (.ref p) H2
theorem ok_shared_limits (T : TProg K w.params mg) : Ok P w K mg base CX0 1 "_shared_limits" ["fields"] spLims := by
  refine T.d_shared_limits.ok sc__shared_limits bi__shared_limits (fun vs H Q E h => ?_) (fun cdv A outer s H f vs Q E hr h => ?_)
  · obtain ⟨fa, fs, rfl, _⟩ := h
    rfl
  · obtain ⟨fa, fs, rfl, hf, q⟩ := h
    refine ⟨_, (pss_one (ps_ret (pe_disp (pps_cons pe_str (pe_tup (pa_cons pe_int (pa_cons (pe_const T.c_LAST_SLOT) pa_nil))) (pps_cons pe_str (pe_tup (pa_cons pe_int (pa_cons (pe_const T.c_MOST_NUMBER) pa_nil))) (pps_cons pe_str (pe_tup (pa_cons pe_int (pa_cons (pe_op op_sub (pe_callB call_len_seq (by rfl) T.b_len (by decide +kernel) (pa_cons (pv 0) pa_nil)) pe_int) pa_nil))) pps_nil))) (by rfl) (by rfl) (fun z => by cases z) (by decide)))), ?_⟩
    intro p np
    have nfp : fa ≠ p := ne_of_none hf np
    have e0 : Ex H (upd H p (.dK [])) := Evl.Ex.new np
    refine ⟨sz_of (by show 2 ≤ 100000; decide), fun t1 n1 => ?_⟩
    refine ⟨sz_of (by show 2 ≤ 100000; decide), fun t2 n2 => ?_⟩
    have e1 := Evl.Ex.new n1 (o := .tup [V.int 0, .int 2])
    have e2 := Evl.Ex.new n2 (o := .tup [V.int 0, .int 65535])
    have e02 := (e0.trans e1).trans e2
    refine ⟨_, rfl, fa, _, rfl, .inl (sl_of (e02 _ _ hf)), _, 1, rfl, rfl, sz_of (by show 2 ≤ 100000; decide), fun t3 n3 => ?_⟩
    have e3 := Evl.Ex.new n3 (o := .tup [V.int 0, .int (((fs.map V.int).length : Int) - 1)])
    have hp : (upd (upd (upd (upd H p (.dK [])) t1 (.tup [V.int 0, .int 2])) t2 (.tup [V.int 0, .int 65535])) t3 (.tup [V.int 0, .int (((fs.map V.int).length : Int) - 1)])) p = some (.dK []) := e3 _ _ (e2 _ _ (e1 _ _ upd_same))
    have h1 := e3 _ _ (e2 _ _ (upd_same (H := upd H p (.dK [])) (a := t1) (o := .tup [V.int 0, .int 2])))
    have h2 := e3 _ _ (upd_same (H := upd (upd H p (.dK [])) t1 (.tup [V.int 0, .int 2])) (a := t2) (o := .tup [V.int 0, .int 65535]))
    refine ⟨hp, [(Sum.inr "slot", .ref t1), (Sum.inr "number", .ref t2), (Sum.inr "unit", .ref t3)], rfl, (by show 3 ≤ 15; decide), ?_⟩
    refine q _ p np (fun b o hb => ?_) ⟨_, upd_same, (show (3 : Nat) ≤ 3 from Nat.le_refl 3), fun k lo hi hk => ?_⟩
    · have nb : b ≠ p := ne_of_none hb np
      rw [upd_ne nb]
      exact (e02.trans e3) _ _ hb
    · have nt : ∀ {b : Addr} {xs : List V}, (upd (upd (upd (upd H p (.dK [])) t1 (.tup [V.int 0, .int 2])) t2 (.tup [V.int 0, .int 65535])) t3 (.tup [V.int 0, .int (((fs.map V.int).length : Int) - 1)])) b = some (.tup xs) → b ≠ p := fun hb e => by
        subst e
        rw [hp] at hb
        cases hb
      have three : (k = "slot" ∧ (lo, hi) = (0, 2)) ∨ (k = "number" ∧ (lo, hi) = (0, 65535)) ∨ (k = "unit" ∧ (lo, hi) = (0, (fs.length : Int) - 1)) := by
        simp only [limsI, List.lookup] at hk
        split at hk
        · rename_i c
          exact .inl ⟨eq_of_beq c, (Option.some.inj hk).symm⟩
        · split at hk
          · rename_i c
            exact .inr (.inl ⟨eq_of_beq c, (Option.some.inj hk).symm⟩)
          · split at hk
            · rename_i c
              exact .inr (.inr ⟨eq_of_beq c, (Option.some.inj hk).symm⟩)
            · cases hk
      rcases three with ⟨rfl, e⟩ | ⟨rfl, e⟩ | ⟨rfl, e⟩
      · cases e
        exact ⟨t1, rfl, by rw [upd_ne (nt h1)]; exact h1⟩
      · cases e
        exact ⟨t2, rfl, by rw [upd_ne (nt h2)]; exact h2⟩
      · obtain ⟨rfl, rfl⟩ := Prod.mk.inj e
        refine ⟨t3, rfl, ?_⟩
        rw [upd_ne (nt upd_same), upd_same, List.length_map]
end
end FW
set_option Elab.async false
set_option linter.all false
set_option maxRecDepth 100000
set_option maxHeartbeats 4000000
namespace FW
open PySem PySem.Spec PyProof.Rows L2
open Evl (pss_cut tCut)
open Evl (Ex Ev EvT EvA EvL EvU RC RV fresh_back ev_var ev_c ea_nil ea_cons ev_cb ev_op ev_is ev_andV ev_orV ev_notV et_test et_B et_and et_or et_not et_is s_ret s_when q_when q_asg q_asgL q_asgU rv_I0 rv_eq rv_ne rv_ixT rv_ixL)
section
variable {P : Program} {w : World} {K : PySem.W.Frag} {mg : Str → Option Value} {base : Heap}
/-! #### an instruction -/
def LimOk (b : Bool) (lims : Lims) (n : Nat) : Prop := lims.lookup ("unit" : Str) = some (0, (n : Int) - 1) ∧ ∀ k ∈ needed b, (lims.lookup k).isSome = true
def spInstr (K : PySem.W.Frag) : Sp := fun vs H Q _ => ∃ (v : V) (d : PyData) (b : Bool) (la fa : Addr) (fs : List Int) (lims : Lims) (n : Nat), vs = [v, .bl b, .ref la, .ref fa] ∧ Da H v d ∧ Lim H la lims n ∧ H fa = some (.lst (fs.map V.int)) ∧ LimOk b lims fs.length ∧ Ret (.bl (okIns b lims fs d)) H Q
def hd1 (d : PyData) : Bool := match d with
  | .tuple (.str _ :: _) => true
  | _ => false
theorem okIns_hd {b : Bool} {lims : Lims} {fs : List Int} {d : PyData} (h : hd1 d = false) : okIns b lims fs d = false := by
  cases d with
  | tuple ds =>
    cases ds with
    | nil => rfl
    | cons d0 r =>
      cases d0 with
      | str x => cases h
      | _ => rfl
  | _ => rfl
theorem hd1_is {d : PyData} (h : hd1 d = true) : ∃ x r, d = .tuple (.str x :: r) := by
  unfold hd1 at h
  split at h
  · exact ⟨_, _, rfl⟩
  · cases h
theorem ok_is_instruction (T : TProg K w.params mg) : Ok P w K mg base CX0 3 "_is_instruction" ["thing", "in_function", "limits", "fields"] (spInstr K) := by
  have G__kinds : Ok P w K mg base CX0 1 "_kinds" ["word", "in_function"] (spKindsOf K) := ok_kinds T
  have G_is_within : Ok P w K mg base CX0 2 "is_within" ["thing", "low", "high"] spWithin := ok_is_within T
  refine T.d_is_instruction.ok sc__is_instruction bi__is_instruction (fun vs H Q E h => ?_) (fun cdv A outer s H f vs Q E hr h => ?_)
  · obtain ⟨v, d, b, la, fa, fs, lims, n, rfl, _⟩ := h
    rfl
  · obtain ⟨v, d, b, la, fa, fs, lims, n, rfl, hd, hl, hf, ⟨hu, hc⟩, q⟩ := h
    refine ⟨_, (pss_cons (ps_if (pt_not (PW.pt (pw_and (pt_val (pe_callB call_isi (by rfl) T.b_isinstance (by decide +kernel) (pa_cons (pv 0) (pa_cons (pe_bltn (by rfl) T.b_tuple (by decide +kernel) (v := .ty "tuple") rfl) pa_nil)))) (pw_and (pt_cmpR op_gt (pe_callB call_len_seq (by rfl) T.b_len (by decide +kernel) (pa_cons (pv 0) pa_nil)) pe_int (nomark _)) (pw_and1 (pt_val (pe_callB call_isi (by rfl) T.b_isinstance (by decide +kernel) (pa_cons (pe_ix ix_tup (pv 0) pe_int (fun _ _ => rfl)) (pa_cons (pe_bltn (by rfl) T.b_str (by decide +kernel) (v := .ty "str") rfl) pa_nil))))))))) (pss_one (ps_ret pe_bl)) pss_nil)
    (pss_cons (ps_set (i := 4) sc__is_instruction.nd rfl (Or.inl rfl) (pe_callO G__kinds (hr.mono (by decide)) (pa_cons (pe_ix ix_tup (pv 0) pe_int (fun _ _ => rfl)) (pa_cons (pv 1) pa_nil))))
    (pss_cons (ps_if (PW.pt (pw_or (pt_cmpR op_isN (pv 4) pe_non (nomark _)) (pw_or1 (pt_cmpR op_ne (pe_callB call_len_seq (by rfl) T.b_len (by decide +kernel) (pa_cons (pv 0) pa_nil)) (pe_op op_add (pe_callB call_len_seq (by rfl) T.b_len (by decide +kernel) (pa_cons (pv 4) pa_nil)) pe_int) (nomark _))))) (pss_one (ps_ret pe_bl)) pss_nil)
    (pss_cons (ps_for PassesOwn.never rfl (pi_enumT (by rfl) T.b_enumerate (pa_cons (pv 4) pa_nil)) (pg_tup rfl (pgs_cons (pg_name (i := 5) sc__is_instruction.nd rfl (Or.inl rfl)) (pgs_cons (pg_name (i := 6) sc__is_instruction.nd rfl (Or.inl rfl)) pgs_nil))) (pss_cons (ps_asg (pe_ifExp (pt_cmpR op_eq (pv 6) pe_str (nomark _)) (pe_tup (pa_cons pe_int (pa_cons (pe_op op_sub (pe_ix ix_list (pv 3) (pe_ix ix_tup (pv 0) (pv 5) (fun _ _ => rfl)) (fun _ _ => rfl)) pe_int) pa_nil))) (pe_dget (hu_of hr) (pv 2) (pv 6) (fun _ _ => rfl))) (pg_tup rfl (pgs_cons (pg_name (i := 7) sc__is_instruction.nd rfl (Or.inl rfl)) (pgs_cons (pg_name (i := 8) sc__is_instruction.nd rfl (Or.inl rfl)) pgs_nil))))
    (pss_one (ps_if (pt_not (pt_val (pe_callO G_is_within (hr.mono (by decide)) (pa_cons (pe_ix ix_tup (pv 0) (pe_op op_add (pv 5) pe_int) (fun _ _ => rfl)) (pa_cons (pv 7) (pa_cons (pv 8) pa_nil)))))) (pss_one (ps_ret pe_bl)) pss_nil))))
    (pss_one (ps_ret pe_bl)))))), ?_⟩
    refine q_when (b := !hd1 d) (et_not ?_) (fun hb H1 x1 => ?_) (fun hb H1 x1 => ?_)
    · -- the first test
      cases hd with
      | @tup a xs ds h1 h2 =>
        have t1 := fun {H'} (x : Ex H H') => ev_isi (K := K) (te := tVar 0) (σ := start N__is_instruction [V.ref a, .bl b, .ref la, .ref fa]) (ev_var rfl) ((Da.tup h1 h2).ex x) (t := "tuple") (.inr (.inr (.inr (.inl rfl))))
        refine et_is (et_and (a := true) (b := hd1 (.tuple ds)) (et_is (et_B (t1 (Evl.Ex.refl _))) (by rw [ty_tuple])) fun _ => ?_) (Bool.true_and _)
        cases h2 with
        | nil => exact et_is (et_and (a := false) (b := true) (et_test (ev_op (ev_lenT (ev_var rfl) (st_of h1)) ev_c rv_I0)) fun z => by cases z) rfl
        | @cons v0 vs0 d0 ds0 g1 g2 =>
          refine et_is (et_and (a := true) (b := isTy d0 "str") (et_is (et_test (ev_op (ev_lenT (ev_var rfl) (st_of h1)) ev_c rv_I0)) ?_) fun _ => et_B (ev_isi (ev_op (ev_var rfl) ev_c (rv_ixT (st_of h1) (atI_nat (j := 0) rfl))) g1 (.inr (.inr (.inl rfl))))) ?_
          · exact decide_eq_true (by rw [List.length_cons]; omega)
          · rw [ty_str, Bool.true_and]
            cases d0 <;> rfl
      | non => exact et_is (et_and (a := false) (b := true) (et_is (et_B (ev_isi (ev_var rfl) .non (.inr (.inr (.inr (.inl rfl)))))) (by rw [ty_tuple])) fun z => by cases z) rfl
      | bl x => exact et_is (et_and (a := false) (b := true) (et_is (et_B (ev_isi (ev_var rfl) (.bl x) (.inr (.inr (.inr (.inl rfl)))))) (by rw [ty_tuple])) fun z => by cases z) rfl
      | int x => exact et_is (et_and (a := false) (b := true) (et_is (et_B (ev_isi (ev_var rfl) (.int x) (.inr (.inr (.inr (.inl rfl)))))) (by rw [ty_tuple])) fun z => by cases z) rfl
      | str x => exact et_is (et_and (a := false) (b := true) (et_is (et_B (ev_isi (ev_var rfl) (.str x) (.inr (.inr (.inr (.inl rfl)))))) (by rw [ty_tuple])) fun z => by cases z) rfl
      | lst h1 h2 => exact et_is (et_and (a := false) (b := true) (et_is (et_B (ev_isi (ev_var rfl) (.lst h1 h2) (.inr (.inr (.inr (.inl rfl)))))) (by rw [ty_tuple])) fun z => by cases z) rfl
      | dic h1 => exact et_is (et_and (a := false) (b := true) (et_is (et_B (ev_isi (ev_var rfl) (.dic h1) (.inr (.inr (.inr (.inl rfl)))))) (by rw [ty_tuple])) fun z => by cases z) rfl
    · -- return False
      have hb' : hd1 d = false := by cases e : hd1 d <;> rw [e] at hb <;> first | rfl | cases hb
      rw [okIns_hd hb'] at q
      exact s_ret ev_c fun H2 x2 => q H2 (x1.trans x2)
    · have hb' : hd1 d = true := by cases e : hd1 d <;> rw [e] at hb <;> first | rfl | cases hb
      obtain ⟨x, r, rfl⟩ := hd1_is hb'
      obtain ⟨a, xs, rfl, ha, hds⟩ := Da.tupl (hd.ex x1)
      obtain ⟨v0, vs0, rfl⟩ : ∃ v0 vs0, xs = v0 :: vs0 := by
        cases hds with
        | cons _ _ => exact ⟨_, _, rfl⟩
      have hv0 : v0 = .str x := by
        cases hds with
        | cons g _ =>
          cases g
          rfl
      subst hv0
      have hlen : vs0.length = r.length := by
        have := hds.len
        rw [List.length_cons, List.length_cons] at this
        omega
      -- kinds = _kinds(thing[0], in_function)
      refine ⟨_, rfl, a, _, 0, .str x, rfl, rfl, st_of ha, atI_nat (j := 0) rfl, _, rfl, x, b, rfl, fun kv hkv H2 x2 => ?_⟩
      have q2 : ∀ z, okIns b lims fs (.tuple (.str x :: r)) = z → Ret (.bl z) H2 Q := fun z e H3 x3 => by
        rw [← e]
        exact q H3 ((x1.trans x2).trans x3)
      have ha2 := x2 _ _ ha
      have hl2 := hl.ex (x1.trans x2)
      have hf2 := x2 _ _ (x1 _ _ hf)
      have hds2 := hds.ex x2
      cases ek : kindsOf b x with
      | none =>
        rw [ek] at hkv
        have ekv : kv = .non := hkv
        subst ekv
        have e0 : okIns b lims fs (.tuple (.str x :: r)) = false := by
          show (match kindsOf b x with | some ks => decide (r.length = ks.length) && okOps lims fs (.str x :: r) ks | none => false) = false
          rw [ek]
        refine q_when (b := true) (et_is (et_or (a := true) (b := true) (et_is (et_test (ev_op (ev_var rfl) ev_c rv_isN)) rfl) fun z => by cases z) rfl) (fun _ H3 x3 => s_ret ev_c fun H4 x4 => q2 false e0 H4 (x3.trans x4)) (fun z => by cases z)
      | some ks =>
        rw [ek] at hkv
        obtain ⟨ka, rfl, hka⟩ := hkv
        have e0 : okIns b lims fs (.tuple (.str x :: r)) = (decide (r.length = ks.length) && okOps lims fs (.str x :: r) ks) := by
          show (match kindsOf b x with | some ks => decide (r.length = ks.length) && okOps lims fs (.str x :: r) ks | none => false) = _
          rw [ek]
        have good := kinds_good ek
        refine q_when (b := !decide (r.length = ks.length)) (et_is (et_or (a := false) (b := !decide (r.length = ks.length)) (et_is (et_test (ev_op (ev_var rfl) ev_c rv_isN)) (decide_eq_false fun z => by cases z)) fun _ =>
          et_is (et_test (ev_op (ev_lenT (ev_var rfl) (st_of ha2)) (ev_op (ev_lenT (ev_var rfl) (hka _)) ev_c rv_I0) (rv_ne rfl))) ?_) (Bool.false_or _)) (fun hb H3 x3 => ?_) (fun hb H3 x3 => ?_)
        · rw [List.length_map, List.length_cons, hlen]
          by_cases c : r.length = ks.length
          · rw [decide_eq_true c, c]
            exact congrArg (! ·) (decide_eq_true rfl)
          · rw [decide_eq_false c]
            refine congrArg (! ·) (decide_eq_false fun z => c ?_)
            have := V.int.inj z
            omega
        · refine s_ret ev_c fun H4 x4 => q2 false ?_ H4 (x3.trans x4)
          rw [e0]
          cases c : decide (r.length = ks.length) with
          | false => rfl
          | true =>
            rw [c] at hb
            cases hb
        · have hrk : r.length = ks.length := by
            cases c : decide (r.length = ks.length) with
            | false =>
              rw [c] at hb
              cases hb
            | true => exact of_decide_eq_true c
          have e1 : okIns b lims fs (.tuple (.str x :: r)) = okOps lims fs (.str x :: r) ks := by rw [e0, decide_eq_true hrk, Bool.true_and]
          have ha3 := x3 _ _ ha2
          have hl3 := hl2.ex x3
          have hf3 := x3 _ _ hf2
          have hds3 := hds2.ex x3
          -- for at, kind in enumerate(kinds)
          refine ⟨_, rfl, ka, _, rfl, hka _, ?_⟩
          refine for_it walk_enumT (fun i σ H' => ∃ y5 y6 y7 y8, σ = [some (.ref a), some (.bl b), some (.ref la), some (.ref fa), some (.ref ka), y5, y6, y7, y8] ∧ Ex H3 H' ∧ ∀ j, j < i → okOp lims fs ((PyData.str x :: r).getD j .none) (ks.getD j "") ((PyData.str x :: r).getD (j + 1) .none) = true)
            ⟨none, none, none, none, rfl, Evl.Ex.refl _, fun j hj => absurd hj (Nat.not_lt_zero _)⟩ (fun i σ H' _ _ => hka _) ?_ ?_
          · rintro i y σ H4 H4' hi ⟨y5, y6, y7, y8, rfl, x4, done⟩ ⟨T', z1, z2, rfl, nT, rfl, f1, f2⟩
            obtain rfl : z1 = .int (i : Nat) := (Option.some.inj f1).symm
            rw [List.length_map] at hi
            have hki : ks[i]? = some ks[i] := List.getElem?_eq_getElem hi
            obtain rfl : z2 = .str ks[i] := by
              have f3 : (ks.map V.str)[i]? = some z2 := f2
              rw [List.getElem?_map, hki] at f3
              exact (Option.some.inj f3).symm
            have xT := Evl.Ex.new nT (o := .tup [V.int (i : Nat), .str ks[i]])
            have x5 := x4.trans xT
            have ha5 := x5 _ _ ha3
            have hl5 := hl3.ex x5
            have hf5 := x5 _ _ hf3
            have hds5 := hds3.ex x5
            refine ⟨T', _, rfl, .inl (.inl upd_same), rfl, _, _, rfl, _, _, rfl, rfl, ?_⟩
            generalize upd H4 T' (.tup [V.int (i : Nat), .str ks[i]]) = H5 at xT x5 ha5 hl5 hf5 hds5 ⊢
            -- the operand at + 1
            have hr1 : i + 1 < (PyData.str x :: r).length := by rw [List.length_cons]; omega
            obtain ⟨vn, hvn, dvn⟩ := hds5.of (List.getElem?_eq_getElem hr1)
            have gkind : ks.getD i "" = ks[i] := getD_at hki
            have gnext : (PyData.str x :: r).getD (i + 1) .none = (PyData.str x :: r)[i + 1] := getD_at (List.getElem?_eq_getElem hr1)
            -- what stands behind the operand's limits
            have rest : ∀ (lo up : Int) (y7 y8 : Option V) (H6 : Hp), Ex H5 H6 → okOp lims fs ((PyData.str x :: r).getD i .none) (ks.getD i "") ((PyData.str x :: r).getD (i + 1) .none) = isIn ((PyData.str x :: r)[i + 1]) lo up → ∀ D : Ends, D.rt = Q →
                (∀ H7, Ex H3 H7 → (∀ j, j < i + 1 → okOp lims fs ((PyData.str x :: r).getD j .none) (ks.getD j "") ((PyData.str x :: r).getD (j + 1) .none) = true) → D.nx [some (.ref a), some (.bl b), some (.ref la), some (.ref fa), some (.ref ka), some (.int (i : Nat)), some (.str ks[i]), some (.int lo), some (.int up)] H7) →
                tIfS (tNot (tB (tCall spWithin [] E0 (tCons (tOp (rIxT K) (tVar 0) (tOp (rI0 fun i j => .int (i + j)) (tVar 5) (tC (.int 1)))) (tCons (tVar 7) (tCons (tVar 8) tNil)))))) (tRet (tC (.bl false))) tNext D
                  [some (.ref a), some (.bl b), some (.ref la), some (.ref fa), some (.ref ka), some (.int (i : Nat)), some (.str ks[i]), some (.int lo), some (.int up)] H6 := by
              intro lo up y7 y8 H6 x6 eop D eD nx
              refine s_when (b := !isIn ((PyData.str x :: r)[i + 1]) lo up) (et_not (et_B (sv_ret (z := .bl (isIn ((PyData.str x :: r)[i + 1]) lo up)) (fun H1 e Q q => ⟨vn, _, lo, up, rfl, (dvn.ex x6).ex e, q⟩)
                (ea_cons (ev_op (ev_var rfl) (ev_op (ev_var rfl) ev_c rv_I0) (rv_ixT (st_of (x6 _ _ ha5)) (atI_nat hvn))) (ea_cons (ev_var rfl) (ea_cons (ev_var rfl) ea_nil)))))) (fun hb H7 x7 => ?_) (fun hb H7 x7 => ?_)
              · refine s_ret ev_c fun H8 x8 => ?_
                rw [eD]
                refine q2 false ?_ H8 (((x3.trans (x5.trans x6)).trans x7).trans x8)
                rw [e1]
                refine okOps_no hi ?_
                rw [eop]
                cases c : isIn ((PyData.str x :: r)[i + 1]) lo up with
                | false => rfl
                | true =>
                  rw [c] at hb
                  cases hb
              · refine nx H7 ((x5.trans x6).trans x7) fun j hj => ?_
                by_cases c : j < i
                · exact done j c
                · have ej : j = i := by omega
                  subst ej
                  rw [eop]
                  cases c : isIn ((PyData.str x :: r)[j + 1]) lo up with
                  | true => rfl
                  | false =>
                    rw [c] at hb
                    cases hb
            by_cases c : ks[i] = "field"
            · -- the field of the unit before
              have hkf : ks[i]? = some ("field" : Str) := by rw [hki, c]
              obtain ⟨ip, hku⟩ := good_field good hkf
              have prev := done (i - 1) (by omega)
              rw [getD_at hku] at prev
              have hr0 : i < (PyData.str x :: r).length := by omega
              rw [show i - 1 + 1 = i by omega, getD_at (List.getElem?_eq_getElem hr0)] at prev
              unfold okOp at prev
              rw [if_neg (by decide), hu] at prev
              obtain ⟨u, eu, u0, u1⟩ := isIn_int prev
              obtain ⟨vu, hvu, dvu⟩ := hds5.of (List.getElem?_eq_getElem hr0)
              rw [eu] at dvu
              obtain rfl : vu = .int u := by cases dvu; rfl
              obtain ⟨fz, _, hfz⟩ := ints_at (ns := fs) u0 (by omega)
              have efz : fs.getD u.toNat 0 = fz := by
                obtain ⟨k, rfl⟩ := Int.eq_ofNat_of_zero_le u0
                have hk : k < fs.length := by omega
                rw [Int.toNat_natCast, getD_at (List.getElem?_eq_getElem hk)]
                have z := hfz.symm.trans (atI_nat (xs := fs.map V.int) (j := k) (v := .int fs[k]) (by rw [List.getElem?_map, List.getElem?_eq_getElem hk]; rfl))
                exact (V.int.inj (Option.some.inj z)).symm
              refine ⟨_, rfl, rfl, _, rfl, ite2 (fun _ => ?_) (fun z => absurd (decide_eq_true (congrArg V.str c)) z)⟩
              refine ⟨_, rfl, _, rfl, _, rfl, a, _, i, .int u, rfl, rfl, st_of ha5, atI_nat hvu, fa, _, u, .int fz, rfl, rfl, sl_of hf5, hfz, fz, 1, rfl, rfl, sz_of (by show 2 ≤ 100000; decide), fun p np => ?_⟩
              refine ⟨p, _, rfl, .inl (.inl upd_same), rfl, _, _, rfl, _, _, rfl, rfl, ?_⟩
              refine rest 0 (fz - 1) none none _ (Evl.Ex.new np) ?_ _ rfl fun H7 x7 all => ⟨_, _, _, _, rfl, x7, all⟩
              unfold okOp
              rw [gkind, if_pos c, getD_at (List.getElem?_eq_getElem hr0), eu, gnext]
              show isIn _ 0 (fs.getD u.toNat 0 - 1) = _
              rw [efz]
            · -- limits[kind]
              have mk : ks[i] ∈ needed b := good_needed good (List.getElem_mem hi) c
              obtain ⟨⟨lo, hi'⟩, elk⟩ := Option.isSome_iff_exists.mp (hc _ mk)
              obtain ⟨kvs, g1, _, g2⟩ := hl5
              obtain ⟨t, g3, g4⟩ := g2 _ _ _ elk
              refine ⟨_, rfl, rfl, _, rfl, ite2 (fun z => absurd (V.str.inj (of_decide_eq_true z)) c) (fun _ => ?_)⟩
              refine ⟨_, rfl, _, rfl, la, .ref t, rfl, .inl ⟨kvs, Sum.inr ks[i], .inl g1, rfl, g3.symm⟩, ?_⟩
              refine ⟨t, _, rfl, st_of g4, rfl, _, _, rfl, _, _, rfl, rfl, ?_⟩
              refine rest lo hi' none none _ (Evl.Ex.refl _) ?_ _ rfl fun H7 x7 all => ⟨_, _, _, _, rfl, x7, all⟩
              unfold okOp
              rw [gkind, if_neg c, elk, gnext]
          · rintro σ H4 ⟨y5, y6, y7, y8, rfl, x4, done⟩
            rw [List.length_map] at done
            show Q (V.bl true) H4
            refine q2 true ?_ H4 (x3.trans x4)
            rw [e1]
            exact okOps_yes done
/-! #### an initializer -/
theorem limOk_I {n : Nat} : LimOk false (limsI n) n := ⟨rfl, fun k hk => by
  have m : k = "slot" ∨ k = "number" ∨ k = "unit" := by simpa [needed] using hk
  rcases m with rfl | rfl | rfl <;> rfl⟩
theorem limOk_F {n size : Nat} {own nf place : Int} : LimOk true (limsF n size own nf place) n := ⟨rfl, fun k hk => by
  have m : k = "slot" ∨ k = "number" ∨ k = "unit" ∨ k = "place" ∨ k = "later function" ∨ k = "later place" := by simpa [needed] using hk
  rcases m with rfl | rfl | rfl | rfl | rfl | rfl <;> rfl⟩
def spInit : Sp := fun vs H Q _ => ∃ (v : V) (d : PyData) (fa : Addr) (fs : List Int), vs = [v, .ref fa] ∧ Da H v d ∧ H fa = some (.lst (fs.map V.int)) ∧ Ret (.bl (okInit fs d)) H Q
/-- whether a datum is a tuple with a length that pleases -/
def tupLen (g : Nat → Bool) (d : PyData) : Bool := match d with
  | .tuple ds => g ds.length
  | _ => false
theorem et_tupLen {σ : L2.St} {H : Hp} {v : V} {d : PyData} {t2 : TT} {g : Nat → Bool} (h0 : σ[0]? = some (some v)) (hd : Da H v d) (h : ∀ a xs, v = .ref a → H a = some (.tup xs) → EvT t2 σ H (g xs.length)) :
    EvT (tAnd (tB (tCB (rIsi K) (tCons (tVar 0) (tCons (tC (.ty "tuple")) tNil)))) t2) σ H (tupLen g d) := by
  refine et_is (et_and (b := tupLen g d) (et_B (ev_isi (ev_var h0) hd (.inr (.inr (.inr (.inl rfl)))))) fun hb => ?_) ?_
  · cases hd with
    | @tup a xs ds h1 h2 =>
      have z := h a xs rfl h1
      rw [h2.len] at z
      exact z
    | _ => rw [ty_tuple] at hb; cases hb
  · rw [ty_tuple]
    cases d <;> rfl
theorem not_true {b : Bool} (h : (!b) = true) : b = false := by cases b <;> first | rfl | cases h
theorem not_false {b : Bool} (h : (!b) = false) : b = true := by cases b <;> first | rfl | cases h
theorem ok_is_initializer (T : TProg K w.params mg) : Ok P w K mg base CX0 4 "_is_initializer" ["thing", "fields"] spInit := by
  have G__shared_limits : Ok P w K mg base CX0 1 "_shared_limits" ["fields"] spLims := ok_shared_limits T
  have G__is_instruction : Ok P w K mg base CX0 3 "_is_instruction" ["thing", "in_function", "limits", "fields"] (spInstr K) := ok_is_instruction T
  refine T.d_is_initializer.ok sc__is_initializer bi__is_initializer (fun vs H Q E h => ?_) (fun cdv A outer s H f vs Q E hr h => ?_)
  · obtain ⟨v, d, fa, fs, rfl, _⟩ := h
    rfl
  · obtain ⟨v, d, fa, fs, rfl, hd, hf, q⟩ := h
    refine ⟨_, (pss_cons (ps_if (pt_not (PW.pt (pw_and (pt_val (pe_callB call_isi (by rfl) T.b_isinstance (by decide +kernel) (pa_cons (pv 0) (pa_cons (pe_bltn (by rfl) T.b_tuple (by decide +kernel) (v := .ty "tuple") rfl) pa_nil)))) (pw_and1 (pt_cmpR op_le (pe_callB call_len_seq (by rfl) T.b_len (by decide +kernel) (pa_cons (pv 0) pa_nil)) (pe_const T.c_MOST_IN_INITIALIZER) (nomark _)))))) (pss_one (ps_ret pe_bl)) pss_nil)
    (pss_cons (ps_set (i := 2) sc__is_initializer.nd rfl (Or.inr rfl) (pe_callO G__shared_limits (hr.mono (by decide)) (pa_cons (pv 1) pa_nil)))
    (pss_one (ps_ret (pe_callB (cr_all rfl) (by rfl) T.b_all (by decide +kernel) (pa_cons (pe_lc (own := [("member", 3)]) rfl sc__is_initializer.nd (pi_tup (pv 0)) (blkOk_by (N := N__is_initializer) (sc := defScope s__is_initializer) (by decide +kernel)) (fun _ _ _ _ _ => (pg_name (i := 3) sc__is_initializer.nd rfl (Or.inl rfl))) (fun _ _ _ _ _ => pts_nil) (fun _ _ _ _ _ => (pe_callO G__is_instruction (hr.mono (by decide)) (pa_cons (pv 3) (pa_cons pe_bl (pa_cons (pv 2) (pa_cons (pv 1) pa_nil))))))) pa_nil)))))), ?_⟩
    refine q_when (b := !tupLen (fun n => decide ((n : Int) ≤ 6)) d) (et_not (et_tupLen rfl hd fun a xs ev h1 => by
      subst ev
      exact et_test (ev_op (ev_lenT (ev_var rfl) (st_of h1)) ev_c rv_I0))) (fun hb H1 x1 => ?_) (fun hb H1 x1 => ?_)
    · have z := not_true hb
      have e : okInit fs d = false := by
        cases d with
        | tuple ds =>
          have z' := of_decide_eq_false z
          show (decide (ds.length ≤ 6) && _) = false
          rw [decide_eq_false (fun h => z' (by omega)), Bool.false_and]
        | _ => rfl
      rw [e] at q
      exact s_ret ev_c fun H2 x2 => q H2 (x1.trans x2)
    · have z := not_false hb
      cases hd with
      | @tup a xs ds h1 h2 =>
        have z' := of_decide_eq_true z
        have hlen : ds.length ≤ 6 := by omega
        refine ⟨_, rfl, fa, fs, rfl, x1 _ _ hf, fun H2 p np x2 hl => ?_⟩
        have x12 := x1.trans x2
        have hx := h2.len
        have el := el_lcT (K := K) (xs := xs) (te := tCall (spInstr K) [] E0 (tCons (tVar 3) (tCons (tC (.bl false)) (tCons (tVar 2) (tCons (tVar 1) tNil))))) (σ := [some (.ref a), some (.ref fa), some (.ref p), none]) (H := H2) (tx := tVar 0) (j := 3) (vs := [3])
          (fun i => .bl (okIns false (limsI fs.length) fs (ds.getD i .none))) (ev_var rfl) (st_of (x12 _ _ h1)) (by rw [hx]; omega) (fun _ => rfl) (fun k x H3 x3 hk => by
            obtain ⟨dk, e1, dd⟩ := h2.at hk
            rw [getD_at e1]
            exact sv_ret (fun H4 e Q q => ⟨x, dk, false, p, fa, fs, limsI fs.length, 3, rfl, ((dd.ex x12).ex x3).ex e, (hl.ex x3).ex e, e _ _ (x3 _ _ (x12 _ _ hf)), limOk_I, q⟩) (ea_cons (ev_var rfl) (ea_cons ev_c (ea_cons (ev_var rfl) (ea_cons (ev_var rfl) ea_nil)))))
        rw [bl_map] at el
        refine s_ret (ev_is (ev_allN (elw_new el)) ?_) fun H3 x3 => q H3 (x12.trans x3)
        rw [all_map, hx, all_at]
        show V.bl _ = V.bl (decide (ds.length ≤ 6) && _)
        rw [decide_eq_true hlen, Bool.true_and]
      | _ => cases z
/-! #### a function's code -/
def spCode : Sp := fun vs H Q _ => ∃ (v : V) (d : PyData) (own nf : Int) (fa : Addr) (fs : List Int), vs = [v, .int own, .int nf, .ref fa] ∧ Da H v d ∧ H fa = some (.lst (fs.map V.int)) ∧ Ret (.bl (okCode own nf fs d)) H Q
theorem ok_is_code (T : TProg K w.params mg) : Ok P w K mg base CX0 4 "_is_code" ["thing", "own", "functions", "fields"] spCode := by
  have G__shared_limits : Ok P w K mg base CX0 1 "_shared_limits" ["fields"] spLims := ok_shared_limits T
  have G__is_instruction : Ok P w K mg base CX0 3 "_is_instruction" ["thing", "in_function", "limits", "fields"] (spInstr K) := ok_is_instruction T
  refine T.d_is_code.ok sc__is_code bi__is_code (fun vs H Q E h => ?_) (fun cdv A outer s H f vs Q E hr h => ?_)
  · obtain ⟨v, d, own, nf, fa, fs, rfl, _⟩ := h
    rfl
  · obtain ⟨v, d, own, nf, fa, fs, rfl, hd, hf, q⟩ := h
    refine ⟨_, (pss_cons (ps_if (pt_not (PW.pt (pw_and (pt_val (pe_callB call_isi (by rfl) T.b_isinstance (by decide +kernel) (pa_cons (pv 0) (pa_cons (pe_bltn (by rfl) T.b_tuple (by decide +kernel) (v := .ty "tuple") rfl) pa_nil)))) (pw_and1 (pt_chain op_le op_le pe_int (pe_callB call_len_seq (by rfl) T.b_len (by decide +kernel) (pa_cons (pv 0) pa_nil)) (pe_const T.c_MOST_IN_FUNCTION)))))) (pss_one (ps_ret pe_bl)) pss_nil)
    (pss_cons (ps_set (i := 4) sc__is_code.nd rfl (Or.inl rfl) (pe_callO G__shared_limits (hr.mono (by decide)) (pa_cons (pv 3) pa_nil)))
    (pss_cons (ps_dput (hu_of hr) (pv 4) pe_str (pe_tup (pa_cons pe_int (pa_cons (pe_callB call_len_seq (by rfl) T.b_len (by decide +kernel) (pa_cons (pv 0) pa_nil)) pa_nil))) rfl)
    (pss_cons (ps_dput (hu_of hr) (pv 4) pe_str (pe_tup (pa_cons (pe_op op_add (pv 1) pe_int) (pa_cons (pe_op op_sub (pv 2) pe_int) pa_nil))) rfl)
    (pss_cons (ps_for PassesOwn.never rfl (pi_enumT (by rfl) T.b_enumerate (pa_cons (pv 0) pa_nil)) (pg_tup rfl (pgs_cons (pg_name (i := 5) sc__is_code.nd rfl (Or.inl rfl)) (pgs_cons (pg_name (i := 6) sc__is_code.nd rfl (Or.inl rfl)) pgs_nil))) (pss_cons (ps_dput (hu_of hr) (pv 4) pe_str (pe_tup (pa_cons (pe_op op_add (pv 5) pe_int) (pa_cons (pe_callB call_len_seq (by rfl) T.b_len (by decide +kernel) (pa_cons (pv 0) pa_nil)) pa_nil))) rfl)
    (pss_one (ps_if (pt_not (pt_val (pe_callO G__is_instruction (hr.mono (by decide)) (pa_cons (pv 6) (pa_cons pe_bl (pa_cons (pv 4) (pa_cons (pv 3) pa_nil))))))) (pss_one (ps_ret pe_bl)) pss_nil))))
    (pss_one (ps_ret pe_bl))))))), ?_⟩
    refine q_when (b := !tupLen (fun n => decide ((1 : Int) ≤ (n : Int)) && decide ((n : Int) ≤ 8)) d) (et_not (et_tupLen rfl hd fun a xs ev h1 => by
      subst ev
      exact et_test (ev_chainLe ev_c (ev_lenT (ev_var rfl) (st_of h1)) ev_c))) (fun hb H1 x1 => ?_) (fun hb H1 x1 => ?_)
    · have z := not_true hb
      have e : okCode own nf fs d = false := by
        cases d with
        | tuple ds =>
          have z' : (decide ((1 : Int) ≤ (ds.length : Int)) && decide ((ds.length : Int) ≤ 8)) = false := z
          show (decide (1 ≤ ds.length) && decide (ds.length ≤ 8) && _) = false
          rw [show decide (1 ≤ ds.length) = decide ((1 : Int) ≤ (ds.length : Int)) by congr 1; exact propext ⟨fun h => by omega, fun h => by omega⟩, show decide (ds.length ≤ 8) = decide ((ds.length : Int) ≤ 8) by congr 1; exact propext ⟨fun h => by omega, fun h => by omega⟩, z', Bool.false_and]
        | _ => rfl
      rw [e] at q
      exact s_ret ev_c fun H2 x2 => q H2 (x1.trans x2)
    · have z := not_false hb
      cases hd with
      | @tup a xs ds h1 h2 =>
        have z' : (decide ((1 : Int) ≤ (ds.length : Int)) && decide ((ds.length : Int) ≤ 8)) = true := z
        rw [Bool.and_eq_true, decide_eq_true_eq, decide_eq_true_eq] at z'
        obtain ⟨za, zb⟩ := z'
        have hx := h2.len
        have eq : okCode own nf fs (.tuple ds) = (List.range ds.length).all fun i => okIns true (limsF fs.length ds.length own nf (i : Nat)) fs (ds.getD i .none) := by
          show (decide (1 ≤ ds.length) && decide (ds.length ≤ 8) && _) = _
          rw [decide_eq_true (by omega), decide_eq_true (by omega), Bool.true_and, Bool.true_and]
        -- limits = _shared_limits(fields)
        refine ⟨_, rfl, fa, fs, rfl, x1 _ _ hf, fun H2 p np x2 hl2 => ?_⟩
        have fp : H p = none := fresh_back x1 np
        have x12 := x1.trans x2
        -- limits['place'] = (0, len(thing))
        refine ⟨_, rfl, a, xs, rfl, .inr (st_of (x12 _ _ h1)), sz_of (by show 2 ≤ 100000; decide), fun t1 n1 => ⟨_, rfl, ?_⟩⟩
        have y1 := Evl.Ex.new n1 (o := .tup [V.int 0, .int (xs.length : Int)])
        obtain ⟨H3, put3, hl3, k3⟩ := (hl2.ex y1).put (k := "place") upd_same (l' := limsI fs.length ++ [(("place" : Str), ((0 : Int), (xs.length : Int)))]) (fun j x => look_snoc rfl j x) (by decide)
        refine ⟨p, H3, rfl, put3, ?_⟩
        have x3 : Ex H H3 := fun b o hb => k3 o b (ne_of_none hb fp) (y1 _ _ (x12 _ _ hb))
        -- limits['later function'] = (own + 1, functions - 1)
        refine ⟨_, rfl, own, 1, rfl, rfl, _, rfl, nf, 1, rfl, rfl, sz_of (by show 2 ≤ 100000; decide), fun t2 n2 => ⟨_, rfl, ?_⟩⟩
        have y2 := Evl.Ex.new n2 (o := .tup [V.int (own + 1), .int (nf - 1)])
        obtain ⟨H4, put4, hl4, k4⟩ := (hl3.ex y2).put (k := "later function") upd_same (l' := limsE fs.length ds.length own nf) (fun j x hj => by
          unfold limsE at hj
          rw [← hx] at hj
          exact look_snoc rfl j x hj) (by decide)
        refine ⟨p, H4, rfl, put4, ?_⟩
        have x4 : Ex H H4 := fun b o hb => k4 o b (ne_of_none hb fp) (y2 _ _ (x3 _ _ hb))
        -- for place, member in enumerate(thing)
        refine ⟨_, rfl, a, xs, rfl, st_of (x4 _ _ h1), ?_⟩
        refine for_it walk_enumT (fun i σ H' => ∃ y5 y6, σ = [some (.ref a), some (.int own), some (.int nf), some (.ref fa), some (.ref p), y5, y6] ∧ Ex H H' ∧ Lim H' p (limsE fs.length ds.length own nf) (5 + i) ∧ i ≤ ds.length ∧ ∀ j, j < i → okIns true (limsF fs.length ds.length own nf (j : Nat)) fs (ds.getD j .none) = true)
          ⟨none, none, rfl, x4, hl4, Nat.zero_le _, fun j hj => absurd hj (Nat.not_lt_zero _)⟩ (fun i σ H' _ ⟨_, _, _, z, _⟩ => st_of (z _ _ h1)) ?_ ?_
        · rintro i y σ H5 H5' hi ⟨y5, y6, rfl, x5, hl5, hil, done⟩ ⟨T', z1, z2, rfl, nT, rfl, f1, f2⟩
          obtain rfl : z1 = .int (i : Nat) := (Option.some.inj f1).symm
          refine ⟨T', _, rfl, .inl (.inl upd_same), rfl, _, _, rfl, _, _, rfl, rfl, ?_⟩
          have xT := Evl.Ex.new nT (o := .tup [V.int (i : Nat), z2])
          have hl6 := hl5.ex xT
          have x6 := x5.trans xT
          generalize upd H5 T' (.tup [V.int (i : Nat), z2]) = H6 at xT hl6 x6 ⊢
          obtain ⟨di, e1, dd⟩ := h2.at f2
          -- limits['later place'] = (place + 1, len(thing))
          refine ⟨_, rfl, i, 1, rfl, rfl, _, rfl, a, xs, rfl, .inr (st_of (x6 _ _ h1)), sz_of (by show 2 ≤ 100000; decide), fun t3 n3 => ⟨_, rfl, ?_⟩⟩
          have y3 := Evl.Ex.new n3 (o := .tup [V.int ((i : Nat) + 1), .int (xs.length : Int)])
          obtain ⟨H7, put7, hl7, k7⟩ := (hl6.ex y3).put (k := "later place") upd_same (l' := limsF fs.length ds.length own nf (i : Nat)) (fun j x hj => by
            unfold limsF at hj
            rw [← hx] at hj ⊢
            exact look_snoc rfl j x hj) (by omega)
          refine ⟨p, H7, rfl, put7, ?_⟩
          have x7 : Ex H H7 := fun b o hb => k7 o b (ne_of_none hb fp) (y3 _ _ (x6 _ _ hb))
          refine s_when (b := !okIns true (limsF fs.length ds.length own nf (i : Nat)) fs di) (et_not (et_B (sv_ret (z := .bl (okIns true (limsF fs.length ds.length own nf (i : Nat)) fs di)) (fun H8 e Q q => ⟨z2, di, true, p, fa, fs, _, _, rfl, (dd.ex x7).ex e, hl7.ex e, e _ _ (x7 _ _ hf), limOk_F, q⟩)
            (ea_cons (ev_var rfl) (ea_cons ev_c (ea_cons (ev_var rfl) (ea_cons (ev_var rfl) ea_nil))))))) (fun hb H8 x8 => ?_) (fun hb H8 x8 => ?_)
          · have w0 := not_true hb
            refine s_ret ev_c fun H9 x9 => ?_
            have e : okCode own nf fs (.tuple ds) = false := by
              rw [eq, Bool.eq_false_iff]
              intro al
              rw [List.all_eq_true] at al
              have al2 := al i (List.mem_range.mpr (by omega))
              rw [getD_at e1, w0] at al2
              cases al2
            rw [e] at q
            exact q H9 ((x7.trans x8).trans x9)
          · have w0 := not_false hb
            refine ⟨_, _, rfl, x7.trans x8, ?_, by omega, fun j hj => ?_⟩
            · obtain ⟨kvs, g1, g0, g2⟩ := hl7.ex x8
              refine ⟨kvs, g1, by omega, fun k lo hi hk => g2 k lo hi ?_⟩
              unfold limsF
              rw [List.lookup_append, hk]
              rfl
            · by_cases c : j < i
              · exact done j c
              · have ej : j = i := by omega
                subst ej
                rw [getD_at e1]
                exact w0
        · rintro σ H5 ⟨y5, y6, rfl, x5, _, _, done⟩
          show Q (V.bl true) H5
          have e : okCode own nf fs (.tuple ds) = true := by
            rw [eq, List.all_eq_true]
            intro j hj
            exact done j (by rw [hx]; exact List.mem_range.mp hj)
          rw [e] at q
          exact q H5 x5
      | _ => cases z
end
end FW
set_option Elab.async false
set_option linter.all false
set_option maxRecDepth 100000
set_option maxHeartbeats 4000000
namespace FW
open PySem PySem.Spec PyProof.Rows L2
open Evl (pss_cut tCut)
open Evl (Ex Ev EvT EvA EvL EvU RC RV fresh_back ev_var ev_c ea_nil ea_cons ev_cb ev_op ev_is ev_andV ev_orV ev_notV et_test et_B et_and et_or et_not et_is s_ret s_when q_when q_asg q_asgL q_asgU rv_I0 rv_eq rv_ne rv_ixT rv_ixL)
section
variable {P : Program} {w : World} {K : PySem.W.Frag} {mg : Str → Option Value} {base : Heap}
/-! #### units, functions -/
def spUnit : Sp := fun vs H Q _ => ∃ (v : V) (d : PyData) (n : Int), vs = [v, .int n] ∧ Da H v d ∧ Ret (.bl (okUnit n d)) H Q
theorem len3 {α : Type} {l : List α} (h : (l.length : Int) = 3) : ∃ a b c, l = [a, b, c] := by
  match l, h with
  | [a, b, c], _ => exact ⟨a, b, c, rfl⟩
  | [], h => exact absurd h (by simp)
  | [_], h => exact absurd h (by simp)
  | [_, _], h => exact absurd h (by simp)
  | _ :: _ :: _ :: _ :: r, h => exact absurd h (by simp only [List.length_cons]; omega)
theorem len2 {α : Type} {l : List α} (h : (l.length : Int) = 2) : ∃ a b, l = [a, b] := by
  match l, h with
  | [a, b], _ => exact ⟨a, b, rfl⟩
  | [], h => exact absurd h (by simp)
  | [_], h => exact absurd h (by simp)
  | _ :: _ :: _ :: r, h => exact absurd h (by simp only [List.length_cons]; omega)
theorem okUnit_no {n : Int} {d : PyData} (h : isTup d 3 = false) : okUnit n d = false := by
  unfold okUnit
  split
  · cases h
  · rfl
theorem da_non {H : Hp} {v : V} {d : PyData} (h : Da H v d) : decide (v = .non) = isNonD d := by
  cases h <;> first | rfl | exact decide_eq_false (fun z => by cases z)
theorem ok_is_unit (T : TProg K w.params mg) : Ok P w K mg base CX0 4 "_is_unit" ["thing", "number"] spUnit := by
  have G_is_tuple : Ok P w K mg base CX0 1 "is_tuple" ["thing", "size"] spTuple := ok_is_tuple T
  have G_is_within : Ok P w K mg base CX0 2 "is_within" ["thing", "low", "high"] spWithin := ok_is_within T
  have G_is_index : Ok P w K mg base CX0 3 "is_index" ["thing", "many"] spIndex := ok_is_index T
  refine T.d_is_unit.ok sc__is_unit bi__is_unit (fun vs H Q E h => ?_) (fun cdv A outer s H f vs Q E hr h => ?_)
  · obtain ⟨v, d, n, rfl, _⟩ := h
    rfl
  · obtain ⟨v, d, n, rfl, hd, q⟩ := h
    refine ⟨_, (pss_cons (ps_if (pt_not (pt_val (pe_callO G_is_tuple (hr.mono (by decide)) (pa_cons (pv 0) (pa_cons pe_int pa_nil))))) (pss_one (ps_ret pe_bl)) pss_nil)
    (pss_cons (ps_asg (pv 0) (pg_tup rfl (pgs_cons (pg_name (i := 2) sc__is_unit.nd rfl (Or.inl rfl)) (pgs_cons (pg_name (i := 3) sc__is_unit.nd rfl (Or.inl rfl)) (pgs_cons (pg_name (i := 4) sc__is_unit.nd rfl (Or.inl rfl)) pgs_nil)))))
    (pss_one (ps_ret (pe_and (pe_or (pe_cmpR op_isN (pv 2) pe_non (nomark _)) (pe_one (pe_callO G_is_index (hr.mono (by decide)) (pa_cons (pv 2) (pa_cons (pv 1) pa_nil))))) (pe_one (pe_callO G_is_within (hr.mono (by decide)) (pa_cons (pv 3) (pa_cons pe_int (pa_cons (pe_const T.c_MOST_FIELDS) pa_nil)))))))))), ?_⟩
    refine q_when (b := !isTup d 3) (et_not (et_B (sv_ret (fun H1 e Q q => ⟨v, d, 3, rfl, hd.ex e, q⟩) (ea_cons (ev_var rfl) (ea_cons ev_c ea_nil))))) (fun hb H1 x1 => ?_) (fun hb H1 x1 => ?_)
    · rw [okUnit_no (not_true hb)] at q
      exact s_ret ev_c fun H2 x2 => q H2 (x1.trans x2)
    · obtain ⟨ds, rfl, hl⟩ := isTup_tup (not_false hb)
      obtain ⟨p, fz, bd, rfl⟩ := len3 hl
      obtain ⟨a, xs, rfl, ha, hds⟩ := Da.tupl (hd.ex x1)
      cases hds with
      | @cons v1 r1 _ _ g1 hds =>
      cases hds with
      | @cons v2 r2 _ _ g2 hds =>
      cases hds with
      | @cons v3 r3 _ _ g3 hds =>
      cases hds
      refine ⟨_, rfl, a, _, rfl, st_of ha, rfl, _, _, rfl, _, _, rfl, _, _, rfl, rfl, ?_⟩
      refine s_ret (ev_is (ev_andV (a := isNonD p || isIn p 0 (n - 1)) (b := isIn fz 0 3)
        (ev_orV (a := isNonD p) (b := isIn p 0 (n - 1)) (ev_is (ev_op (ev_var rfl) ev_c rv_isN) (by rw [da_non g1])) fun _ =>
          sv_ret (fun H1 e Q q => ⟨v1, p, n, rfl, g1.ex e, q⟩) (ea_cons (ev_var rfl) (ea_cons (ev_var rfl) ea_nil)))
        fun _ => sv_ret (fun H1 e Q q => ⟨v2, fz, 0, 3, rfl, g2.ex e, q⟩) (ea_cons (ev_var rfl) (ea_cons ev_c (ea_cons ev_c ea_nil)))) rfl) fun H2 x2 => q H2 (x1.trans x2)
def spUnits : Sp := fun vs H Q _ => ∃ (v : V) (d : PyData), vs = [v] ∧ Da H v d ∧ Ret (.bl (okUnits d)) H Q
theorem ok_are_units (T : TProg K w.params mg) : Ok P w K mg base CX0 5 "_are_units" ["thing"] spUnits := by
  have G__is_unit : Ok P w K mg base CX0 4 "_is_unit" ["thing", "number"] spUnit := ok_is_unit T
  refine T.d_are_units.ok sc__are_units bi__are_units (fun vs H Q E h => ?_) (fun cdv A outer s H f vs Q E hr h => ?_)
  · obtain ⟨v, d, rfl, _⟩ := h
    rfl
  · obtain ⟨v, d, rfl, hd, q⟩ := h
    refine ⟨_, (pss_cons (ps_if (pt_not (PW.pt (pw_and (pt_val (pe_callB call_isi (by rfl) T.b_isinstance (by decide +kernel) (pa_cons (pv 0) (pa_cons (pe_bltn (by rfl) T.b_tuple (by decide +kernel) (v := .ty "tuple") rfl) pa_nil)))) (pw_and1 (pt_chain op_le op_le pe_int (pe_callB call_len_seq (by rfl) T.b_len (by decide +kernel) (pa_cons (pv 0) pa_nil)) (pe_const T.c_MOST_UNITS)))))) (pss_one (ps_ret pe_bl)) pss_nil)
    (pss_one (ps_ret (pe_callB (cr_all rfl) (by rfl) T.b_all (by decide +kernel) (pa_cons (pe_lc (own := [("number", 1), ("member", 2)]) (g := gTup K 2 (gCons (gName 1) (gCons (gName 2) gNil))) rfl sc__are_units.nd (pi_enumT (by rfl) T.b_enumerate (pa_cons (pv 0) pa_nil)) (blkOk_by (N := N__are_units) (sc := defScope s__are_units) (by decide +kernel)) (fun _ _ _ _ _ => by exact (pg_tup rfl (pgs_cons (pg_name (i := 1) sc__are_units.nd rfl (Or.inl rfl)) (pgs_cons (pg_name (i := 2) sc__are_units.nd rfl (Or.inl rfl)) pgs_nil)))) (fun _ _ _ _ _ => pts_nil) (fun _ _ _ _ _ => (pe_callO G__is_unit (hr.mono (by decide)) (pa_cons (pv 2) (pa_cons (pv 1) pa_nil))))) pa_nil))))), ?_⟩
    refine q_when (b := !tupLen (fun n => decide ((1 : Int) ≤ (n : Int)) && decide ((n : Int) ≤ 6)) d) (et_not (et_tupLen rfl hd fun a xs ev h1 => by
      subst ev
      exact et_test (ev_chainLe ev_c (ev_lenT (ev_var rfl) (st_of h1)) ev_c))) (fun hb H1 x1 => ?_) (fun hb H1 x1 => ?_)
    · have z := not_true hb
      have e : okUnits d = false := by
        cases d with
        | tuple ds =>
          have z' : (decide ((1 : Int) ≤ (ds.length : Int)) && decide ((ds.length : Int) ≤ 6)) = false := z
          show (decide (1 ≤ ds.length) && decide (ds.length ≤ 6) && _) = false
          rw [show decide (1 ≤ ds.length) = decide ((1 : Int) ≤ (ds.length : Int)) by congr 1; exact propext ⟨fun h => by omega, fun h => by omega⟩, show decide (ds.length ≤ 6) = decide ((ds.length : Int) ≤ 6) by congr 1; exact propext ⟨fun h => by omega, fun h => by omega⟩, z', Bool.false_and]
        | _ => rfl
      rw [e] at q
      exact s_ret ev_c fun H2 x2 => q H2 (x1.trans x2)
    · have z := not_false hb
      cases hd with
      | @tup a xs ds h1 h2 =>
        have z' : (decide ((1 : Int) ≤ (ds.length : Int)) && decide ((ds.length : Int) ≤ 6)) = true := z
        rw [Bool.and_eq_true, decide_eq_true_eq, decide_eq_true_eq] at z'
        obtain ⟨za, zb⟩ := z'
        have hx := h2.len
        have el := el_lcE (K := K) (xs := xs) (te := tCall spUnit [] E0 (tCons (tVar 2) (tCons (tVar 1) tNil))) (σ := [some (.ref a), none, none]) (H := H1) (ta := tCons (tVar 0) tNil) (i := 1) (j := 2) (vs := [1, 2])
          (fun i => .bl (okUnit (i : Nat) (ds.getD i .none))) (ea_cons (ev_var rfl) ea_nil) (st_of (x1 _ _ h1)) (by rw [hx]; omega) (fun _ _ => rfl) (fun k x H3 x3 hk => by
            obtain ⟨dk, e1, dd⟩ := h2.at hk
            rw [getD_at e1]
            exact sv_ret (fun H4 e Q q => ⟨x, dk, (k : Nat), rfl, ((dd.ex x1).ex x3).ex e, q⟩) (ea_cons (ev_var rfl) (ea_cons (ev_var rfl) ea_nil)))
        rw [bl_map] at el
        refine s_ret (ev_is (ev_allN (elw_new el)) ?_) fun H3 x3 => q H3 (x1.trans x3)
        rw [all_map, hx]
        show V.bl _ = V.bl (decide (1 ≤ ds.length) && decide (ds.length ≤ 6) && _)
        rw [decide_eq_true (by omega), decide_eq_true (by omega), Bool.true_and, Bool.true_and]
      | _ => cases z
def spFuns : Sp := fun vs H Q _ => ∃ (v : V) (d : PyData) (n : Int), vs = [v, .int n] ∧ Da H v d ∧ Ret (.bl (okFuns n d)) H Q
theorem okFun_is {n : Int} {d : PyData} (h : isTup d 2 = false) : okFun n d = false := by
  unfold okFun
  split
  · cases h
  · rfl
theorem ok_are_functions (T : TProg K w.params mg) : Ok P w K mg base CX0 4 "_are_functions" ["thing", "units"] spFuns := by
  have G_is_tuple : Ok P w K mg base CX0 1 "is_tuple" ["thing", "size"] spTuple := ok_is_tuple T
  have G_is_index : Ok P w K mg base CX0 3 "is_index" ["thing", "many"] spIndex := ok_is_index T
  refine T.d_are_functions.ok sc__are_functions bi__are_functions (fun vs H Q E h => ?_) (fun cdv A outer s H f vs Q E hr h => ?_)
  · obtain ⟨v, d, n, rfl, _⟩ := h
    rfl
  · obtain ⟨v, d, n, rfl, hd, q⟩ := h
    refine ⟨_, (pss_cons (ps_if (pt_not (PW.pt (pw_and (pt_val (pe_callB call_isi (by rfl) T.b_isinstance (by decide +kernel) (pa_cons (pv 0) (pa_cons (pe_bltn (by rfl) T.b_tuple (by decide +kernel) (v := .ty "tuple") rfl) pa_nil)))) (pw_and1 (pt_chain op_le op_le pe_int (pe_callB call_len_seq (by rfl) T.b_len (by decide +kernel) (pa_cons (pv 0) pa_nil)) (pe_const T.c_MOST_FUNCTIONS)))))) (pss_one (ps_ret pe_bl)) pss_nil)
    (pss_one (ps_ret (pe_callB (cr_all rfl) (by rfl) T.b_all (by decide +kernel) (pa_cons (pe_lc (own := [("member", 2)]) rfl sc__are_functions.nd (pi_tup (pv 0)) (blkOk_by (N := N__are_functions) (sc := defScope s__are_functions) (by decide +kernel)) (fun _ _ _ _ _ => (pg_name (i := 2) sc__are_functions.nd rfl (Or.inl rfl))) (fun _ _ _ _ _ => pts_nil) (fun _ _ _ _ _ => (pe_and (pe_callO G_is_tuple (hr.mono (by decide)) (pa_cons (pv 2) (pa_cons pe_int pa_nil))) (pe_one (pe_callO G_is_index (hr.mono (by decide)) (pa_cons (pe_ix (ix_tupK (K := K) rfl) (pv 2) pe_int (fun _ _ => rfl)) (pa_cons (pv 1) pa_nil))))))) pa_nil))))), ?_⟩
    refine q_when (b := !tupLen (fun n => decide ((1 : Int) ≤ (n : Int)) && decide ((n : Int) ≤ 4)) d) (et_not (et_tupLen rfl hd fun a xs ev h1 => by
      subst ev
      exact et_test (ev_chainLe ev_c (ev_lenT (ev_var rfl) (st_of h1)) ev_c))) (fun hb H1 x1 => ?_) (fun hb H1 x1 => ?_)
    · have z := not_true hb
      have e : okFuns n d = false := by
        cases d with
        | tuple ds =>
          have z' : (decide ((1 : Int) ≤ (ds.length : Int)) && decide ((ds.length : Int) ≤ 4)) = false := z
          show (decide (1 ≤ ds.length) && decide (ds.length ≤ 4) && _) = false
          rw [show decide (1 ≤ ds.length) = decide ((1 : Int) ≤ (ds.length : Int)) by congr 1; exact propext ⟨fun h => by omega, fun h => by omega⟩, show decide (ds.length ≤ 4) = decide ((ds.length : Int) ≤ 4) by congr 1; exact propext ⟨fun h => by omega, fun h => by omega⟩, z', Bool.false_and]
        | _ => rfl
      rw [e] at q
      exact s_ret ev_c fun H2 x2 => q H2 (x1.trans x2)
    · have z := not_false hb
      cases hd with
      | @tup a xs ds h1 h2 =>
        have z' : (decide ((1 : Int) ≤ (ds.length : Int)) && decide ((ds.length : Int) ≤ 4)) = true := z
        rw [Bool.and_eq_true, decide_eq_true_eq, decide_eq_true_eq] at z'
        obtain ⟨za, zb⟩ := z'
        have hx := h2.len
        have el := el_lcT (K := K) (xs := xs) (te := tAndV (tCall spTuple [] E0 (tCons (tVar 2) (tCons (tC (.int 2)) tNil))) (tCall spIndex [] E0 (tCons (tOp (rIxT K) (tVar 2) (tC (.int 0))) (tCons (tVar 1) tNil)))) (σ := [some (.ref a), some (.int n), none]) (H := H1) (tx := tVar 0) (j := 2) (vs := [2])
          (fun i => .bl (okFun n (ds.getD i .none))) (ev_var rfl) (st_of (x1 _ _ h1)) (by rw [hx]; omega) (fun _ => rfl) (fun k x H3 x3 hk => by
            obtain ⟨dk, e1, dd⟩ := h2.at hk
            rw [getD_at e1]
            have dd3 := (dd.ex x1).ex x3
            refine ev_is (ev_andV (a := isTup dk 2) (b := okFun n dk) (sv_ret (fun H4 e Q q => ⟨x, dk, 2, rfl, dd3.ex e, q⟩) (ea_cons (ev_var rfl) (ea_cons ev_c ea_nil))) fun hb => ?_) ?_
            · obtain ⟨es, rfl, hl⟩ := isTup_tup hb
              obtain ⟨uz, bz, rfl⟩ := len2 hl
              obtain ⟨a', xs', rfl, ha', hds'⟩ := Da.tupl dd3
              cases hds' with
              | @cons v1 r1 _ _ g1 hds' =>
              exact sv_ret (z := .bl (okFun n (.tuple [uz, bz]))) (fun H4 e Q q => ⟨v1, uz, n, rfl, g1.ex e, q⟩) (ea_cons (ev_op (ev_var rfl) ev_c (rv_ixT (st_of ha') (atI_nat (j := 0) rfl))) (ea_cons (ev_var rfl) ea_nil))
            · cases c : isTup dk 2 with
              | true => rw [Bool.true_and]
              | false => rw [okFun_is c]; rfl)
        rw [bl_map] at el
        refine s_ret (ev_is (ev_allN (elw_new el)) ?_) fun H3 x3 => q H3 (x1.trans x3)
        rw [all_map, hx, all_at]
        show V.bl _ = V.bl (decide (1 ≤ ds.length) && decide (ds.length ≤ 4) && _)
        rw [decide_eq_true (by omega), decide_eq_true (by omega), Bool.true_and, Bool.true_and]
      | _ => cases z
/-! #### a program -/
def okFunsOf (du df : PyData) : Bool := match du with
  | .tuple us => okFuns (us.length : Nat) df
  | _ => false
def spProg : Sp := fun vs H Q _ => ∃ (v : V) (d : PyData), vs = [v] ∧ Da H v d ∧ Ret (.bl (okProg d)) H Q
theorem okProg_tup {d : PyData} (h : okProg d = true) : ∃ us fns, d = .tuple [.tuple us, .tuple fns] := by
  unfold okProg at h
  split at h
  · exact ⟨_, _, rfl⟩
  · cases h
theorem okUnits_tup {d : PyData} (h : okUnits d = true) : ∃ us, d = .tuple us ∧ us.length ≤ 6 ∧ 1 ≤ us.length ∧ ∀ i (u : PyData), us[i]? = some u → okUnit (i : Nat) u = true := by
  cases d with
  | tuple us =>
    have z : (decide (1 ≤ us.length) && decide (us.length ≤ 6) && (List.range us.length).all fun i => okUnit (i : Nat) (us.getD i .none)) = true := h
    rw [Bool.and_eq_true, Bool.and_eq_true, decide_eq_true_eq, decide_eq_true_eq, List.all_eq_true] at z
    refine ⟨us, rfl, z.1.2, z.1.1, fun i u hu => ?_⟩
    have := z.2 i (List.mem_range.mpr (List.getElem?_eq_some_iff.mp hu).1)
    rw [getD_at hu] at this
    exact this
  | _ => cases h
theorem okFuns_tup {n : Int} {d : PyData} (h : okFuns n d = true) : ∃ fns, d = .tuple fns ∧ fns.length ≤ 4 ∧ 1 ≤ fns.length ∧ ∀ f ∈ fns, okFun n f = true := by
  cases d with
  | tuple fns =>
    have z : (decide (1 ≤ fns.length) && decide (fns.length ≤ 4) && fns.all (okFun n)) = true := h
    rw [Bool.and_eq_true, Bool.and_eq_true, decide_eq_true_eq, decide_eq_true_eq, List.all_eq_true] at z
    exact ⟨fns, rfl, z.1.2, z.1.1, z.2⟩
  | _ => cases h
theorem okUnit_tup {n : Int} {d : PyData} (h : okUnit n d = true) : ∃ p fz b, d = .tuple [p, .int fz, b] ∧ 0 ≤ fz ∧ fz ≤ 3 ∧ (p = .none ∨ ∃ k, p = .int k ∧ 0 ≤ k ∧ k ≤ n - 1) := by
  unfold okUnit at h
  split at h
  · rename_i p f b
    rw [Bool.and_eq_true] at h
    obtain ⟨fz, rfl, f0, f1⟩ := isIn_int h.2
    refine ⟨p, fz, b, rfl, f0, f1, ?_⟩
    have h1 := h.1
    rw [Bool.or_eq_true] at h1
    rcases h1 with h1 | h1
    · cases p with
      | none => exact .inl rfl
      | _ => cases h1
    · obtain ⟨k, rfl, k0, k1⟩ := isIn_int h1
      exact .inr ⟨k, rfl, k0, k1⟩
  · cases h
theorem okFun_tup {n : Int} {d : PyData} (h : okFun n d = true) : ∃ u b, d = .tuple [.int u, b] ∧ 0 ≤ u ∧ u ≤ n - 1 := by
  unfold okFun at h
  split at h
  · obtain ⟨k, rfl, k0, k1⟩ := isIn_int h
    exact ⟨k, _, rfl, k0, k1⟩
  · cases h
theorem ok_is_program (T : TProg K w.params mg) : Ok P w K mg base CX0 6 "is_program" ["thing"] spProg := by
  have G_is_tuple : Ok P w K mg base CX0 1 "is_tuple" ["thing", "size"] spTuple := ok_is_tuple T
  have G__are_units : Ok P w K mg base CX0 5 "_are_units" ["thing"] spUnits := ok_are_units T
  have G__are_functions : Ok P w K mg base CX0 4 "_are_functions" ["thing", "units"] spFuns := ok_are_functions T
  have G__is_initializer : Ok P w K mg base CX0 4 "_is_initializer" ["thing", "fields"] spInit := ok_is_initializer T
  have G__is_code : Ok P w K mg base CX0 4 "_is_code" ["thing", "own", "functions", "fields"] spCode := ok_is_code T
  refine T.d_is_program.ok sc_is_program bi_is_program (fun vs H Q E h => ?_) (fun cdv A outer s H f vs Q E hr h => ?_)
  · obtain ⟨v, d, rfl, _⟩ := h
    rfl
  · obtain ⟨v, d, rfl, hd, q⟩ := h
    refine ⟨_, (pss_cons (ps_if (pt_not (pt_val (pe_callO G_is_tuple (hr.mono (by decide)) (pa_cons (pv 0) (pa_cons pe_int pa_nil))))) (pss_one (ps_ret pe_bl)) pss_nil)
    (pss_cons (ps_asg (pv 0) (pg_tup rfl (pgs_cons (pg_name (i := 1) sc_is_program.nd rfl (Or.inl rfl)) (pgs_cons (pg_name (i := 2) sc_is_program.nd rfl (Or.inr rfl)) pgs_nil))))
    (pss_cons (ps_if (pt_not (PW.pt (pw_and (pt_val (pe_callO G__are_units (hr.mono (by decide)) (pa_cons (pv 1) pa_nil))) (pw_and1 (pt_val (pe_callO G__are_functions (hr.mono (by decide)) (pa_cons (pv 2) (pa_cons (pe_callB call_len_seq (by rfl) T.b_len (by decide +kernel) (pa_cons (pv 1) pa_nil)) pa_nil)))))))) (pss_one (ps_ret pe_bl)) pss_nil)
    (pss_cons (ps_set (i := 3) sc_is_program.nd rfl (Or.inr rfl) (pe_lc (own := [("unit", 4)]) rfl sc_is_program.nd (pi_tup (pv 1)) (blkOk_by (N := N_is_program) (sc := defScope s_is_program) (by decide +kernel)) (fun _ _ _ _ _ => (pg_name (i := 4) sc_is_program.nd rfl (Or.inl rfl))) (fun _ _ _ _ _ => pts_nil) (fun _ _ _ _ _ => (pe_ix (ix_tupK (K := K) rfl) (pv 4) pe_int (fun _ _ => rfl)))))
    (pss_cons (ps_setLc (i := 5) (own := [("unit", 4)]) (g := gName 4) rfl sc_is_program.nd rfl rfl (sw_true rfl rfl rfl (by decide +kernel)) (pi_tup (pv 1)) (blkOk_by (N := N_is_program) (sc := defScope s_is_program) (by decide +kernel)) (fun _ _ _ _ _ => (pg_name (i := 4) sc_is_program.nd rfl (Or.inl rfl))) (fun _ _ _ _ _ => pts_nil) (fun _ _ _ _ _ => (pe_callO G__is_initializer (hr.mono (by decide)) (pa_cons (pe_ix (ix_tupK (K := K) rfl) (pv 4) pe_int (fun _ _ => rfl)) (pa_cons (pv 3) pa_nil)))))
    (pss_cons (ps_setLc (i := 6) (own := [("own", 7), ("function", 8)]) (g := gTup K 2 (gCons (gName 7) (gCons (gName 8) gNil))) rfl sc_is_program.nd rfl rfl (sw_true rfl rfl rfl (by decide +kernel)) (pi_enumT (by rfl) T.b_enumerate (pa_cons (pv 2) pa_nil)) (blkOk_by (N := N_is_program) (sc := defScope s_is_program) (by decide +kernel)) (fun _ _ _ _ _ => by exact (pg_tup rfl (pgs_cons (pg_name (i := 7) sc_is_program.nd rfl (Or.inl rfl)) (pgs_cons (pg_name (i := 8) sc_is_program.nd rfl (Or.inl rfl)) pgs_nil)))) (fun _ _ _ _ _ => pts_nil) (fun _ _ _ _ _ => (pe_callO G__is_code (hr.mono (by decide)) (pa_cons (pe_ix (ix_tupK (K := K) rfl) (pv 8) pe_int (fun _ _ => rfl)) (pa_cons (pv 7) (pa_cons (pe_callB (call_lenK (K := K) rfl) (by rfl) T.b_len (by decide +kernel) (pa_cons (pv 2) pa_nil)) (pa_cons (pv 3) pa_nil)))))))
    (pss_one (ps_ret (pe_and (pe_callB (cr_all rfl) (by rfl) T.b_all (by decide +kernel) (pa_cons (pv 5) pa_nil)) (pe_one (pe_callB (cr_all rfl) (by rfl) T.b_all (by decide +kernel) (pa_cons (pv 6) pa_nil)))))))))))), ?_⟩
    refine q_when (b := !isTup d 2) (et_not (et_B (sv_ret (fun H1 e Q q => ⟨v, d, 2, rfl, hd.ex e, q⟩) (ea_cons (ev_var rfl) (ea_cons ev_c ea_nil))))) (fun hb H1 x1 => ?_) (fun hb H1 x1 => ?_)
    · have e : okProg d = false := by
        rw [Bool.eq_false_iff]
        intro z
        obtain ⟨us, fns, rfl⟩ := okProg_tup z
        cases not_true hb
      rw [e] at q
      exact s_ret ev_c fun H2 x2 => q H2 (x1.trans x2)
    · obtain ⟨ds, rfl, hl⟩ := isTup_tup (not_false hb)
      obtain ⟨du, df, rfl⟩ := len2 hl
      obtain ⟨a, xs, rfl, ha, hds⟩ := Da.tupl (hd.ex x1)
      cases hds with
      | @cons vu r1 _ _ gu hds =>
      cases hds with
      | @cons vf r2 _ _ gf hds =>
      cases hds
      -- units, functions = thing
      refine ⟨_, rfl, a, _, rfl, st_of ha, rfl, _, _, rfl, _, _, rfl, rfl, ?_⟩
      -- the units, the functions
      refine q_when (b := !(okUnits du && okFunsOf du df)) (et_not (et_and (et_B (sv_ret (fun H1 e Q q => ⟨vu, du, rfl, gu.ex e, q⟩) (ea_cons (ev_var rfl) ea_nil))) fun hu => ?_)) (fun hb2 H2 x2 => ?_) (fun hb2 H2 x2 => ?_)
      · obtain ⟨us, rfl, _, _, _⟩ := okUnits_tup hu
        obtain ⟨au, xu, rfl, hau, hus⟩ := Da.tupl gu
        exact et_B (sv_ret (z := .bl (okFuns (us.length : Nat) df)) (fun H1 e Q q => ⟨vf, df, (us.length : Nat), by rw [hus.len], gf.ex e, q⟩) (ea_cons (ev_var rfl) (ea_cons (ev_lenT (ev_var rfl) (st_of hau)) ea_nil)))
      · have e : okProg (.tuple [du, df]) = false := by
          rw [Bool.eq_false_iff]
          intro z
          obtain ⟨us, fns, e⟩ := okProg_tup z
          cases e
          unfold okProg at z
          rw [Bool.and_eq_true, Bool.and_eq_true] at z
          have z2 : (okUnits (.tuple us) && okFuns (us.length : Nat) (.tuple fns)) = false := not_true hb2
          rw [z.1.1] at z2
          cases z2
        rw [e] at q
        exact s_ret ev_c fun H3 x3 => q H3 ((x1.trans x2).trans x3)
      · have hb3 := not_false hb2
        rw [Bool.and_eq_true] at hb3
        obtain ⟨us, rfl, us6, us1, hunit⟩ := okUnits_tup hb3.1
        obtain ⟨fns, rfl, f4, f1, hfun⟩ := okFuns_tup hb3.2
        obtain ⟨au, xu, rfl, hau, hus⟩ := Da.tupl (gu.ex x2)
        obtain ⟨af, xf, rfl, haf, hfs⟩ := Da.tupl (gf.ex x2)
        have hxu := hus.len
        have hxf := hfs.len
        -- fields = [unit[1] for unit in units]
        have el := el_lcT (K := K) (xs := xu) (te := tOp (rIxT K) (tVar 4) (tC (.int 1))) (σ := [some (.ref a), some (.ref au), some (.ref af), none, none, none, none, none, none]) (H := H2) (tx := tVar 1) (j := 4) (vs := [4])
          (fun i => .int (fieldsD (us.getD i .none))) (ev_var rfl) (st_of hau) (by rw [hxu]; omega) (fun _ => rfl) (fun k x H3 x3 hk => by
            obtain ⟨dk, e1, dd⟩ := hus.at hk
            obtain ⟨p, fz, b, rfl, _, _, _⟩ := okUnit_tup (hunit k dk e1)
            rw [getD_at e1]
            obtain ⟨a', xs', rfl, ha', hds'⟩ := Da.tupl (dd.ex x3)
            cases hds' with
            | @cons v1 r1 _ _ g1 hds' =>
            cases hds' with
            | @cons v2 r2 _ _ g2 hds' =>
            cases g2
            exact ev_op (ev_var rfl) ev_c (rv_ixT (st_of ha') (atI_nat (j := 1) rfl)))
        have ef : (List.range xu.length).map (fun i => V.int (fieldsD (us.getD i .none))) = (us.map fieldsD).map V.int := by
          rw [hxu, List.map_map]
          refine List.ext_getElem (by simp) fun i h1 h2 => ?_
          simp only [List.length_map, List.length_range] at h1
          rw [List.getElem_map, List.getElem_map, List.getElem_range, getD_at (List.getElem?_eq_getElem h1)]
          rfl
        rw [ef] at el
        refine q_asgL el fun fa H3 n3 x3 h3 => ?_
        generalize hfz : us.map fieldsD = fs at *
        -- initializers
        have el2 := el_lcT (K := K) (xs := xu) (te := tCall spInit [] E0 (tCons (tOp (rIxT K) (tVar 4) (tC (.int 2))) (tCons (tVar 3) tNil))) (σ := [some (.ref a), some (.ref au), some (.ref af), some (.ref fa), none, none, none, none, none]) (H := H3) (tx := tVar 1) (j := 4) (vs := [4])
          (fun i => .bl (okInit fs (bodyD (us.getD i .none)))) (ev_var rfl) (st_of (x3 _ _ hau)) (by rw [hxu]; omega) (fun _ => rfl) (fun k x H4 x4 hk => by
            obtain ⟨dk, e1, dd⟩ := hus.at hk
            obtain ⟨p, fz, b, rfl, _, _, _⟩ := okUnit_tup (hunit k dk e1)
            rw [getD_at e1]
            obtain ⟨a', xs', rfl, ha', hds'⟩ := Da.tupl ((dd.ex x3).ex x4)
            cases hds' with
            | @cons v1 r1 _ _ g1 hds' =>
            cases hds' with
            | @cons v2 r2 _ _ g2 hds' =>
            cases hds' with
            | @cons v3 r3 _ _ g3 hds' =>
            exact sv_ret (fun H5 e Q q => ⟨v3, b, fa, fs, rfl, g3.ex e, e _ _ (x4 _ _ h3), q⟩) (ea_cons (ev_op (ev_var rfl) ev_c (rv_ixT (st_of ha') (atI_nat (j := 2) rfl))) (ea_cons (ev_var rfl) ea_nil)))
        refine q_asgL el2 fun ia H4 n4 x4 h4 => ?_
        -- codes
        have el3 := el_lcE (K := K) (xs := xf) (te := tCall spCode [] E0 (tCons (tOp (rIxT K) (tVar 8) (tC (.int 1))) (tCons (tVar 7) (tCons (tCB (fun xs H Q => ∃ p ys, xs = [.ref p] ∧ (SqL K H p ys ∨ SqT K H p ys) ∧ Q (.int ys.length) H) (tCons (tVar 2) tNil)) (tCons (tVar 3) tNil))))) (σ := [some (.ref a), some (.ref au), some (.ref af), some (.ref fa), none, some (.ref ia), none, none, none]) (H := H4) (ta := tCons (tVar 2) tNil) (i := 7) (j := 8) (vs := [7, 8])
          (fun i => .bl (okCode (i : Nat) (fns.length : Nat) fs (bodyD (fns.getD i .none)))) (ea_cons (ev_var rfl) ea_nil) (st_of (x4 _ _ (x3 _ _ haf))) (by rw [hxf]; omega) (fun _ _ => rfl) (fun k x H5 x5 hk => by
            obtain ⟨dk, e1, dd⟩ := hfs.at hk
            obtain ⟨u, b, rfl, _, _⟩ := okFun_tup (hfun dk (List.mem_of_getElem? e1))
            rw [getD_at e1]
            have x45 := (x3.trans x4).trans x5
            obtain ⟨a', xs', rfl, ha', hds'⟩ := Da.tupl (dd.ex x45)
            cases hds' with
            | @cons v1 r1 _ _ g1 hds' =>
            cases hds' with
            | @cons v2 r2 _ _ g2 hds' =>
            exact sv_ret (fun H6 e Q q => ⟨v2, b, (k : Nat), (fns.length : Nat), fa, fs, by rw [hxf], g2.ex e, e _ _ (x5 _ _ (x4 _ _ h3)), q⟩)
              (ea_cons (ev_op (ev_var rfl) ev_c (rv_ixT (st_of ha') (atI_nat (j := 1) rfl))) (ea_cons (ev_var rfl) (ea_cons (ev_lenT (ev_var rfl) (st_of (x45 _ _ haf))) (ea_cons (ev_var rfl) ea_nil)))))
        refine q_asgL el3 fun ca H5 n5 x5 h5 => ?_
        rw [bl_map] at h4 h5
        refine s_ret (ev_is (ev_andV (ev_allN (elw_var rfl (x5 _ _ h4))) fun _ => ev_allN (elw_var rfl h5)) ?_) fun H6 x6 => q H6 (((((x1.trans x2).trans x3).trans x4).trans x5).trans x6)
        rw [all_map, all_map, hxu, hxf, all_at (g := fun u => okInit fs (bodyD u))]
        have e : okProg (.tuple [.tuple us, .tuple fns]) = (okUnits (.tuple us) && okFuns (us.length : Nat) (.tuple fns) && us.all (fun u => okInit (us.map fieldsD) (bodyD u)) &&
            (List.range fns.length).all fun i => okCode (i : Nat) (fns.length : Nat) (us.map fieldsD) (bodyD (fns.getD i .none))) := rfl
        rw [e, hb3.1, hfz, show okFuns (us.length : Nat) (.tuple fns) = true from hb3.2, Bool.true_and, Bool.true_and]
end
end FW
set_option Elab.async false
set_option linter.all false
set_option maxRecDepth 100000
set_option maxHeartbeats 4000000
namespace FW
open PySem PySem.Spec PyProof.Rows L2
open Evl (pss_cut tCut)
open Evl (Ex Ev EvT EvA EvL EvU RC RV fresh_back ev_var ev_c ea_nil ea_cons ev_cb ev_op ev_is ev_andV ev_orV ev_notV et_test et_B et_and et_or et_not et_is s_ret s_when q_when q_asg q_asgL q_asgU rv_I0 rv_eq rv_ne rv_ixT rv_ixL)
structure TDraw (K : PySem.W.Frag) (mg : Str → Option Value) : Prop extends TPen K mg where
  b_range : mg "range" = none
  b_tuple : mg "tuple" = none
  b_min : mg "min" = none
  d_pick : Df K mg "_law_one_of" s__law_one_of
  d_number : Df K mg "_law_number" s__law_number
  d_plain : Df K mg "_law_plain_one" s__law_plain_one
  d_any : Df K mg "_law_any_one" s__law_any_one
  d_prog : Df K mg "_law_draw_program" s__law_draw_program
/-- the pen at p, B read since; what else stood at H0 stands -/
structure PAt (p : Addr) (B : Nat) (H0 H : Hp) : Prop where
  ex : Ex (off H0 p) (off H p)
  pen : Pen H p B
  cell : cellsOf H p = cellsOf H0 p
section
variable {p a : Addr} {B B' : Nat} {H0 H H1 : Hp} {o : HO} {vs : List V} {ds : List PyData}
theorem Pen.some (h : Pen H p B) : ∃ o, H p = some o := by
  obtain ⟨c, cs, at', r, h1, _⟩ := h
  exact ⟨_, h1⟩
theorem Pen.ne (h : Pen H p B) (n : H a = none) : a ≠ p := fun e => by
  subst e
  obtain ⟨o, h1⟩ := h.some
  rw [n] at h1
  cases h1
theorem PAt.new (c : PAt p B H0 H) (n : H a = none) : PAt p B H0 (upd H a o) := ⟨c.ex.trans (off_mono (same_new n)), c.pen.ext (same_new n), by
  rw [← c.cell]
  unfold cellsOf
  rw [upd_ne fun z => c.pen.ne n z.symm]⟩
theorem PAt.more (c : PAt p B H0 H) (e : Ex H H1) : PAt p B H0 H1 := ⟨c.ex.trans (off_mono e), c.pen.ext e, by
  rw [← c.cell]
  obtain ⟨o, h⟩ := c.pen.some
  unfold cellsOf
  rw [h, e _ _ h]⟩
theorem PAt.take (c : PAt p B H0 H) (s : Same (off H p) (off H1 p)) (pn : PenT H H1 p B') : PAt p B' H0 H1 := ⟨c.ex.trans s, pn.1, pn.2.trans c.cell⟩
theorem PAt.upd {B0 : Nat} {D : Addr} {ys : List V} (c : PAt p B H0 H) (h0 : Pen H0 p B0) (n : H0 D = none) : PAt p B H0 (upd H D (.lst ys)) := by
  have pD : p ≠ D := fun z => h0.ne n z.symm
  refine ⟨fun a u e => ?_, ?_, ?_⟩
  · have e2 := c.ex a u e
    have na : a ≠ p := fun z => by
      subst z
      rw [off_same] at e
      cases e
    rw [off_ne na] at e e2 ⊢
    have nD : a ≠ D := ne_of_none e n
    rw [upd_ne nD]
    exact e2
  · obtain ⟨c0, cs0, a0, r0, g1, g2, _⟩ := h0
    obtain ⟨c1, cs, a', r, f1, f2, f3⟩ := c.pen
    have e := c.cell
    unfold cellsOf at e
    rw [g1, f1] at e
    have e' : c1 = c0 := by
      have z : some (V.ref c1) = some (V.ref c0) := e
      cases z
      rfl
    subst e'
    exact ⟨c1, cs, a', r, by rw [upd_ne pD]; exact f1, by rw [upd_ne (ne_of_none g2 n)]; exact f2, f3⟩
  · rw [← c.cell]
    unfold cellsOf
    rw [upd_ne pD]
theorem PAt.refl (h : Pen H p B) : PAt p B H H := ⟨Ex.refl _, h, rfl⟩
theorem PAt.trans (c : PAt p B H0 H) (d : PAt p B' H H1) : PAt p B' H0 H1 := ⟨c.ex.trans d.ex, d.pen, d.cell.trans c.cell⟩
theorem PAt.mono (c : PAt p B H0 H) (h : B ≤ B') : PAt p B' H0 H := ⟨c.ex, c.pen.mono h, c.cell⟩
theorem PAt.da (c : PAt p B H0 H) {v : V} {d : PyData} (h : Da (off H0 p) v d) : Da (off H p) v d := h.ex c.ex
theorem da_tupN (h : Pen H p B) (n : H a = none) (d : DaAll (off H p) vs ds) : Da (off (upd H a (.tup vs)) p) (.ref a) (.tuple ds) :=
  .tup (off_of upd_same (h.ne n)) (d.ex (off_mono (same_new n)))
theorem da_new {v : V} {d : PyData} (h : Da (off H p) v d) (n : H a = none) : Da (off (upd H a o) p) v d := h.ex (off_mono (same_new n))
end
mutual
/-- data of tuples alone -/
def noL : PyData → Bool
  | .tuple ds => noLAll ds
  | .list _ | .dict _ => false
  | .none | .bool _ | .int _ | .str _ => true
def noLAll : List PyData → Bool
  | [] => true
  | d :: ds => noL d && noLAll ds
end
/-- tuples stay -/
def ExT (H H' : Hp) : Prop := ∀ a xs, H a = some (.tup xs) → H' a = some (.tup xs)
mutual
theorem Da.exT {H H' : Hp} (e : ExT H H') : ∀ {d : PyData} {v : V}, noL d = true → Da H v d → Da H' v d
  | .none, _, _, h => by cases h; exact .non
  | .bool b, _, _, h => by cases h; exact .bl b
  | .int i, _, _, h => by cases h; exact .int i
  | .str x, _, _, h => by cases h; exact .str x
  | .tuple ds, _, n, h => by
    cases h with
    | tup h1 h2 => exact .tup (e _ _ h1) (DaAll.exT e n h2)
  | .list _, _, n, _ => by cases n
  | .dict _, _, n, _ => by cases n
theorem DaAll.exT {H H' : Hp} (e : ExT H H') : ∀ {ds : List PyData} {vs : List V}, noLAll ds = true → DaAll H vs ds → DaAll H' vs ds
  | [], _, _, h => by cases h; exact .nil
  | d :: ds, _, n, h => by
    cases h with
    | cons h1 h2 =>
      have n' : (noL d && noLAll ds) = true := n
      rw [Bool.and_eq_true] at n'
      exact .cons (Da.exT e n'.1 h1) (DaAll.exT e n'.2 h2)
end
theorem noLAll_of {ds : List PyData} (h : ∀ d ∈ ds, noL d = true) : noLAll ds = true := by
  induction ds with
  | nil => rfl
  | cons d r ih =>
    show (noL d && noLAll r) = true
    rw [h d List.mem_cons_self, ih fun x hx => h x (List.mem_cons_of_mem _ hx)]
    rfl
theorem ExT.of {H H' : Hp} (e : Ex H H') : ExT H H' := fun a xs h => e a _ h
theorem ExT.trans {H H1 H2 : Hp} (e : ExT H H1) (f : ExT H1 H2) : ExT H H2 := fun a xs h => f a xs (e a xs h)
theorem ExT.lst {H : Hp} {D : Addr} {xs : List V} {o : HO} (h : H D = some (.lst xs)) : ExT H (upd H D o) := fun a ys e => by
  have n : a ≠ D := fun z => by
    subst z
    rw [h] at e
    cases e
  rw [upd_ne n]
  exact e
theorem ExT.off {H : Hp} {p : Addr} {B : Nat} (h : Pen H p B) : ExT H (off H p) := fun a ys e => off_of e fun z => by
  subst z
  obtain ⟨c, cs, at', r, h1, _⟩ := h
  rw [h1] at e
  cases e
theorem PAt.exT {p : Addr} {B B0 : Nat} {H0 H : Hp} (h0 : Pen H0 p B0) (c : PAt p B H0 H) : ExT H0 H := fun a ys e => off_sub _ _ (c.ex _ _ (ExT.off h0 a ys e))
def dpT (z : Int × Int) : PyData := .tuple [.int z.1, .int z.2]
/-- all fields of all units, as the draws hold them -/
def FieldsOk (H : Hp) (l : Addr) (fs : List Int) : Prop := ∃ (xs : List V) (zs : List (Int × Int)), H l = some (.lst xs) ∧ DaAll H xs (zs.map dpT) ∧ zs.length < 1000 ∧ ∀ z ∈ zs, 0 ≤ z.1 ∧ z.1.toNat < fs.length ∧ 0 ≤ z.2 ∧ z.2 < fs.getD z.1.toNat 0
theorem FieldsOk.ex {H H' : Hp} {l : Addr} {fs : List Int} (h : FieldsOk H l fs) (e : Ex H H') : FieldsOk H' l fs := by
  obtain ⟨xs, zs, h1, h2, h3⟩ := h
  exact ⟨xs, zs, e _ _ h1, h2.ex e, h3⟩
theorem st_ofD {K : PySem.W.Frag} {H : Hp} {a : Addr} {xs : List V} (h : H a = some (.tup xs)) : SqT K H a xs := .inl (.inl h)
mutual
theorem Da.dp {K : PySem.W.Frag} {H : Hp} : ∀ {d : PyData} {v : V}, d.hasDict = false → Da H v d → Dp K H v d
  | .none, _, _, h => by cases h; exact .non
  | .bool b, _, _, h => by cases h; exact .bl b
  | .int i, _, _, h => by cases h; exact .int i
  | .str x, _, _, h => by cases h; exact .str x
  | .list ds, _, n, h => by
    cases h with
    | lst h1 h2 => exact .lst (.inl (.inl h1)) (DaAll.dp (by simpa [PyData.hasDict] using n) h2)
  | .tuple ds, _, n, h => by
    cases h with
    | tup h1 h2 => exact .tup (st_ofD h1) (DaAll.dp (by simpa [PyData.hasDict] using n) h2)
  | .dict _, _, n, h => by simp [PyData.hasDict] at n
theorem DaAll.dp {K : PySem.W.Frag} {H : Hp} : ∀ {ds : List PyData} {vs : List V}, PyData.hasDictAll ds = false → DaAll H vs ds → DpAll K H vs ds
  | [], _, _, h => by cases h; exact .nil
  | d :: ds, _, n, h => by
    cases h with
    | cons h1 h2 =>
      simp only [PyData.hasDictAll, Bool.or_eq_false_iff] at n
      exact .cons (Da.dp n.1 h1) (DaAll.dp n.2 h2)
end
theorem zs_no (zs : List (Int × Int)) : PyData.hasDictAll (zs.map dpT) = false := by
  induction zs with
  | nil => rfl
  | cons z r ih => rw [List.map_cons, PyData.hasDictAll, ih]; rfl
theorem zs_lay (zs : List (Int × Int)) : PyData.canLayAll0 (zs.map dpT) = true := by
  induction zs with
  | nil => rfl
  | cons z r ih => rw [List.map_cons, PyData.canLayAll0, ih]; rfl
theorem zs_deep (zs : List (Int × Int)) : PyData.depthAll (zs.map dpT) ≤ 1 := by
  induction zs with
  | nil => exact Nat.zero_le _
  | cons z r ih => rw [List.map_cons, PyData.depthAll]; exact Nat.max_le.mpr ⟨Nat.le_refl _, ih⟩
theorem zs_shaped (zs : List (Int × Int)) : SeqAt.shaped (.list (zs.map dpT)) = true := by
  unfold SeqAt.shaped
  rw [Bool.and_eq_true]
  refine ⟨zs_lay zs, decide_eq_true ?_⟩
  have := zs_deep zs
  show PyData.depthAll _ + 1 ≤ 64
  omega
section
variable {P : Program} {w : World} {K : PySem.W.Frag} {mg : Str → Option Value} {base : Heap}
def spPick : Sp := fun vs H Q _ => ∃ (p l : Addr) (xs : List V) (B : Nat), vs = [.ref p, .ref l] ∧ Pen H p B ∧ B ≤ 1000000000 ∧ off H p l = some (.lst xs) ∧ 0 < xs.length ∧ xs.length < 1000000 ∧
  ∀ H' x, Same (off H p) (off H' p) → PenT H H' p (B + 1) → x ∈ xs → Q x H'
theorem atI_in {xs : List V} {i : Int} (h0 : 0 ≤ i) (h : i < (xs.length : Int)) : ∃ x, x ∈ xs ∧ atI xs i = some x := by
  obtain ⟨j, rfl⟩ := Int.eq_ofNat_of_zero_le h0
  have hj : j < xs.length := by omega
  exact ⟨xs[j], List.getElem_mem hj, atI_nat (List.getElem?_eq_getElem hj)⟩
theorem isIn_of {i lo hi : Int} (h0 : lo ≤ i) (h1 : i ≤ hi) : isIn (.int i) lo hi = true := by
  show (decide (lo ≤ i) && decide (i ≤ hi)) = true
  rw [decide_eq_true h0, decide_eq_true h1]
  rfl
theorem ins1 {b : Bool} {lims : Lims} {fs : List Int} {w k : Str} {x : PyData} (hk : kindsOf b w = some [k]) (h1 : okOp lims fs (.str w) k x = true) : okIns b lims fs (.tuple [.str w, x]) = true := by
  show (match kindsOf b w with | some ks => _ | none => false) = true
  rw [hk]
  show (true && okOps lims fs [.str w, x] [k]) = true
  rw [Bool.true_and]
  refine okOps_yes fun i hi => ?_
  obtain rfl : i = 0 := by simp only [List.length_cons, List.length_nil] at hi; omega
  exact h1
theorem ins2 {b : Bool} {lims : Lims} {fs : List Int} {w k l : Str} {x y : PyData} (hk : kindsOf b w = some [k, l]) (h1 : okOp lims fs (.str w) k x = true) (h2 : okOp lims fs x l y = true) : okIns b lims fs (.tuple [.str w, x, y]) = true := by
  show (match kindsOf b w with | some ks => _ | none => false) = true
  rw [hk]
  show (true && okOps lims fs [.str w, x, y] [k, l]) = true
  rw [Bool.true_and]
  refine okOps_yes fun i hi => ?_
  match i, hi with
  | 0, _ => exact h1
  | 1, _ => exact h2
  | i + 2, hi => simp only [List.length_cons, List.length_nil] at hi; omega
theorem ins3 {b : Bool} {lims : Lims} {fs : List Int} {w k l m : Str} {x y z : PyData} (hk : kindsOf b w = some [k, l, m]) (h1 : okOp lims fs (.str w) k x = true) (h2 : okOp lims fs x l y = true) (h3 : okOp lims fs y m z = true) :
    okIns b lims fs (.tuple [.str w, x, y, z]) = true := by
  show (match kindsOf b w with | some ks => _ | none => false) = true
  rw [hk]
  show (true && okOps lims fs [.str w, x, y, z] [k, l, m]) = true
  rw [Bool.true_and]
  refine okOps_yes fun i hi => ?_
  match i, hi with
  | 0, _ => exact h1
  | 1, _ => exact h2
  | 2, _ => exact h3
  | i + 3, hi => simp only [List.length_cons, List.length_nil] at hi; omega
theorem op_lim {lims : Lims} {fs : List Int} {prev : PyData} {k : Str} {i lo hi : Int} (hf : k ≠ "field") (hl : lims.lookup k = some (lo, hi)) (h0 : lo ≤ i) (h1 : i ≤ hi) : okOp lims fs prev k (.int i) = true := by
  unfold okOp
  rw [if_neg hf, hl]
  exact isIn_of h0 h1
theorem op_field {lims : Lims} {fs : List Int} {u i : Int} (h0 : 0 ≤ i) (h1 : i < fs.getD u.toNat 0) : okOp lims fs (.int u) "field" (.int i) = true := by
  unfold okOp
  rw [if_pos rfl]
  exact isIn_of h0 (by omega)
theorem op_slot {n : Nat} {fs : List Int} {prev : PyData} {i : Int} (h0 : 0 ≤ i) (h1 : i < 3) : okOp (limsI n) fs prev "slot" (.int i) = true := op_lim (by decide) (lo := 0) (hi := 2) rfl h0 (by omega)
theorem op_num {n : Nat} {fs : List Int} {prev : PyData} {i : Int} (h0 : 0 ≤ i) (h1 : i ≤ 65535) : okOp (limsI n) fs prev "number" (.int i) = true := op_lim (by decide) (lo := 0) (hi := 65535) rfl h0 h1
theorem op_unit {n : Nat} {fs : List Int} {prev : PyData} {i : Int} (h0 : 0 ≤ i) (h1 : i < (n : Int)) : okOp (limsI n) fs prev "unit" (.int i) = true := op_lim (by decide) (lo := 0) (hi := (n : Int) - 1) rfl h0 (by omega)
theorem look_app {l m : Lims} {k : Str} {x : Int × Int} (h : l.lookup k = some x) : (l ++ m).lookup k = some x := by
  induction l with
  | nil => cases h
  | cons e r ih =>
    obtain ⟨a, b⟩ := e
    rw [List.cons_append]
    simp only [List.lookup] at h ⊢
    cases c : k == a with
    | true =>
      rw [c] at h
      exact h
    | false =>
      rw [c] at h
      exact ih h
theorem limsF_of {n size : Nat} {own nf place : Int} {k : Str} {x : Int × Int} (h : (limsI n).lookup k = some x) : (limsF n size own nf place).lookup k = some x := look_app (look_app (look_app h))
theorem kinds_up {w : Str} {ks : List Str} (h : kindsOf false w = some ks) : kindsOf true w = some ks := by
  unfold kindsOf at h ⊢
  split at h
  · rename_i c
    rw [if_pos c]
    exact h
  · rw [Bool.false_and] at h
    rw [if_neg (by decide)] at h
    cases h
theorem okOp_up {n size : Nat} {own nf place : Int} {fs : List Int} {prev : PyData} {k : Str} {x : PyData} (h : okOp (limsI n) fs prev k x = true) : okOp (limsF n size own nf place) fs prev k x = true := by
  unfold okOp at h ⊢
  by_cases c : k = "field"
  · rw [if_pos c] at h ⊢
    exact h
  · rw [if_neg c] at h ⊢
    cases e : (limsI n).lookup k with
    | none =>
      rw [e] at h
      cases h
    | some y =>
      rw [e] at h
      rw [limsF_of e]
      exact h
theorem okIns_up {n size : Nat} {own nf place : Int} {fs : List Int} {d : PyData} (h : okIns false (limsI n) fs d = true) : okIns true (limsF n size own nf place) fs d = true := by
  unfold okIns at h ⊢
  split at h
  · rename_i w r
    cases e : kindsOf false w with
    | none =>
      rw [e] at h
      cases h
    | some ks =>
      rw [e] at h
      dsimp only at h ⊢
      rw [kinds_up e]
      dsimp only
      rw [Bool.and_eq_true] at h ⊢
      refine ⟨h.1, ?_⟩
      have h2 := h.2
      unfold okOps at h2
      rw [List.all_eq_true] at h2
      exact okOps_yes fun i hi => okOp_up (h2 i (List.mem_range.mpr hi))
  · cases h
theorem lcP {te : TE} {σ : L2.St} {vs : List Nat} {j : Nat} {Q : VK} {p : Addr} {B c n : Nat} {H1 : Hp} (Good : Hp → V → Prop) (hG : ∀ H H' v, ExT H H' → Good H v → Good H' v) (pen : Pen H1 p B) (hn : n ≤ 1000) (hw : ∀ x, wipe ((wipe σ vs).set j (some x)) vs = wipe σ vs)
    (he : ∀ (k : Nat) H2, k < n → PAt p (B + c * k) H1 H2 → ∀ Q' : VK, (∀ y H3, PAt p (B + c * (k + 1)) H2 H3 → Good H3 y → Q' y H3) → te ((wipe σ vs).set j (some (.int (k : Nat)))) H2 Q')
    (hd : ∀ D H2 ys, PAt p (B + c * n) H1 H2 → H1 D = none → H2 D = some (.lst ys) → ys.length = n → (∀ y ∈ ys, Good H2 y) → Q (.ref D) H2) : LcRest te σ vs j Q n H1 := by
  intro D hD
  refine lc_it (walk_range (lo := 0) (n := n)) (fun i H' => PAt p (B + c * i) H1 H' ∧ ∃ ys, H' D = some (.lst ys) ∧ ys.length = i ∧ ∀ y ∈ ys, Good H' y) ⟨(PAt.refl pen).new hD, [], upd_same, rfl, fun y hy => by cases hy⟩ (fun _ _ _ _ => trivial) ?_ ?_
  · rintro i x H' H'' hi ⟨c1, ys, h1, h2, h3⟩ ⟨rfl, rfl⟩
    refine ⟨hw _, ?_⟩
    show te ((wipe σ vs).set j (some (.int (0 + (i : Int))))) _ _
    rw [show (0 : Int) + (i : Int) = (i : Int) from Int.zero_add _]
    refine he i _ hi c1 _ fun y H3 c2 g => ?_
    have hD3 : H3 D = some (.lst ys) := off_sub _ _ (c2.ex _ _ (off_of h1 (pen.ne hD)))
    have eT := ExT.lst (o := .lst (ys ++ [y])) hD3
    have e2 := (c2.exT c1.pen).trans eT
    refine ⟨ys, hD3, sz_lt (by omega), (c1.trans c2).upd pen hD, ys ++ [y], upd_same, by rw [List.length_append, h2]; rfl, fun z hz => ?_⟩
    rw [List.mem_append, List.mem_singleton] at hz
    rcases hz with hz | rfl
    · exact hG _ _ _ e2 (h3 z hz)
    · exact hG _ _ _ eT g
  · rintro H' ⟨c1, ys, h1, h2, h3⟩
    exact hd D H' ys c1 hD h1 h2 h3
theorem ints_of {ys : List V} {lo hi : Int} (h : ∀ y ∈ ys, ∃ i, y = .int i ∧ lo ≤ i ∧ i ≤ hi) : ∃ cs : List Int, ys = cs.map V.int ∧ ∀ i ∈ cs, lo ≤ i ∧ i ≤ hi := by
  induction ys with
  | nil => exact ⟨[], rfl, fun i hi => by cases hi⟩
  | cons y r ih =>
    obtain ⟨cs, rfl, hc⟩ := ih fun z hz => h z (List.mem_cons_of_mem _ hz)
    obtain ⟨i, rfl, h0, h1⟩ := h y List.mem_cons_self
    refine ⟨i :: cs, rfl, fun k hk => ?_⟩
    rcases List.mem_cons.mp hk with rfl | hk
    · exact ⟨h0, h1⟩
    · exact hc k hk
theorem das_of {H : Hp} {ys : List V} {G : PyData → Prop} (h : ∀ y ∈ ys, ∃ d, Da H y d ∧ G d) : ∃ ds, DaAll H ys ds ∧ ∀ d ∈ ds, G d := by
  induction ys with
  | nil => exact ⟨[], .nil, fun i hi => by cases hi⟩
  | cons y r ih =>
    obtain ⟨ds, h1, hc⟩ := ih fun z hz => h z (List.mem_cons_of_mem _ hz)
    obtain ⟨d, h0, g⟩ := h y List.mem_cons_self
    refine ⟨d :: ds, .cons h0 h1, fun k hk => ?_⟩
    rcases List.mem_cons.mp hk with rfl | hk
    · exact g
    · exact hc k hk
/-- fields drawn so far -/
def FieldsA (H : Hp) (l : Addr) (fs : List Int) (i : Nat) : Prop := ∃ (xs : List V) (zs : List (Int × Int)), H l = some (.lst xs) ∧ DaAll H xs (zs.map dpT) ∧ zs.length ≤ 3 * i ∧ ∀ z ∈ zs, 0 ≤ z.1 ∧ z.1.toNat < fs.length ∧ 0 ≤ z.2 ∧ z.2 < fs.getD z.1.toNat 0
def UnitOk (fs : List Int) (k : Nat) (d : PyData) : Prop := okUnit (k : Nat) d = true ∧ okInit fs (bodyD d) = true ∧ fs[k]? = some (fieldsD d) ∧ noL d = true
def FunOk (fs : List Int) (nf : Nat) (k : Nat) (d : PyData) : Prop := okFun (fs.length : Nat) d = true ∧ okCode (k : Nat) (nf : Nat) fs (bodyD d) = true ∧ noL d = true
def HeadOk (nu : Nat) (H : Hp) (y : V) : Prop := ∃ (t : Addr) (u m : Int), y = .ref t ∧ H t = some (.tup [.int u, .int m]) ∧ 0 ≤ u ∧ u < (nu : Int) ∧ 1 ≤ m ∧ m ≤ 8
theorem zs_noL (zs : List (Int × Int)) : noLAll (zs.map dpT) = true := noLAll_of fun d hd => by
  obtain ⟨z, _, rfl⟩ := List.mem_map.mp hd
  rfl
theorem FieldsA.exT {H H' : Hp} {l : Addr} {fs : List Int} {i : Nat} (h : FieldsA H l fs i) (e : ExT H H') (el : ∀ xs, H l = some (.lst xs) → H' l = some (.lst xs)) : FieldsA H' l fs i := by
  obtain ⟨xs, zs, h1, h2, h3⟩ := h
  exact ⟨xs, zs, el _ h1, h2.exT e (zs_noL zs), h3⟩
theorem FieldsA.ok {H : Hp} {p l : Addr} {fs : List Int} {i B : Nat} (h : FieldsA H l fs i) (pen : Pen H p B) (hl : l ≠ p) (hi : i ≤ 100) : FieldsOk (off H p) l fs := by
  obtain ⟨xs, zs, h1, h2, h3, h4⟩ := h
  exact ⟨xs, zs, off_of h1 hl, h2.exT (ExT.off pen) (zs_noL zs), by omega, h4⟩
theorem zs_of {H : Hp} {ys : List V} {i z : Int} (h : ∀ y ∈ ys, ∃ f, Da H y (dpT (i, f)) ∧ 0 ≤ f ∧ f < z) : ∃ zs : List (Int × Int), DaAll H ys (zs.map dpT) ∧ zs.length = ys.length ∧ ∀ w ∈ zs, w.1 = i ∧ 0 ≤ w.2 ∧ w.2 < z := by
  induction ys with
  | nil => exact ⟨[], .nil, rfl, fun i hi => by cases hi⟩
  | cons y r ih =>
    obtain ⟨zs, h1, h2, hc⟩ := ih fun z hz => h z (List.mem_cons_of_mem _ hz)
    obtain ⟨f, h0, g⟩ := h y List.mem_cons_self
    refine ⟨(i, f) :: zs, .cons h0 h1, by rw [List.length_cons, List.length_cons, h2], fun k hk => ?_⟩
    rcases List.mem_cons.mp hk with rfl | hk
    · exact ⟨rfl, g⟩
    · exact hc k hk
theorem at_snoc {α : Type} {G : Nat → α → Prop} {ds : List α} {d : α} (h : ∀ k e, ds[k]? = some e → G k e) (hd : G ds.length d) : ∀ k e, (ds ++ [d])[k]? = some e → G k e := by
  intro k e he
  rcases Nat.lt_trichotomy k ds.length with q | q | q
  · rw [List.getElem?_append_left q] at he
    exact h k e he
  · subst q
    rw [List.getElem?_append_right (Nat.le_refl _), Nat.sub_self] at he
    cases he
    exact hd
  · rw [List.getElem?_append_right (by omega)] at he
    have : k - ds.length = (k - ds.length - 1) + 1 := by omega
    rw [this] at he
    cases he
theorem noLAll_app {ds es : List PyData} (h1 : noLAll ds = true) (h2 : noLAll es = true) : noLAll (ds ++ es) = true := by
  induction ds with
  | nil => exact h2
  | cons d r ih =>
    have h1' : (noL d && noLAll r) = true := h1
    rw [Bool.and_eq_true] at h1'
    show (noL d && noLAll (r ++ es)) = true
    rw [h1'.1, ih h1'.2]
    rfl
theorem PAt.lst {p D : Addr} {B : Nat} {H0 H : Hp} {xs : List V} (c : PAt p B H0 H) (h : H0 D = some (.lst xs)) (n : D ≠ p) : H D = some (.lst xs) := off_sub _ _ (c.ex _ _ (off_of h n))
/-- the parent of a unit drawn -/
theorem ok_pick (T : TDraw K mg) : Ok P w K mg base CX0 3 "_law_one_of" ["pen", "some"] spPick := by
  have G__law_take : Ok P w K mg base CX0 2 "_law_take" ["pen", "amount"] spTake := ok_take T.toTPen
  refine T.d_pick.ok sc__law_one_of bi__law_one_of (fun vs H Q E h => ?_) (fun cdv A outer s H f vs Q E hr h => ?_)
  · obtain ⟨p, l, xs, B, rfl, _⟩ := h
    rfl
  · obtain ⟨p, l, xs, B, rfl, hp, hB, hl, h0, h1, q⟩ := h
    refine ⟨_, (pss_one (ps_ret (pe_ix ix_list (pv 1) (pe_callO G__law_take (hr.mono (by decide)) (pa_cons (pv 0) (pa_cons (pe_callB call_len_seq (by rfl) T.b_len (by decide +kernel) (pa_cons (pv 1) pa_nil)) pa_nil))) (fun _ _ => rfl)))), ?_⟩
    refine ⟨_, rfl, _, rfl, _, rfl, l, xs, rfl, .inl (.inl (.inl (off_sub _ _ hl))), p, _, B, rfl, hp, hB, by omega, by omega, fun H1 r s1 p1 r0 r1 => ?_⟩
    obtain ⟨x, hx, ex⟩ := atI_in r0 r1
    exact ⟨l, xs, r, x, rfl, rfl, .inl (.inl (off_sub _ _ (s1 _ _ hl))), ex, q H1 x s1 p1 hx⟩
def spNumber : Sp := fun vs H Q _ => ∃ (p : Addr) (B : Nat), vs = [.ref p] ∧ Pen H p B ∧ B ≤ 900000000 ∧ ∀ H' i, PAt p (B + 2) H H' → 0 ≤ i → i ≤ 65535 → Q (.int i) H'
theorem ok_number (T : TDraw K mg) : Ok P w K mg base CX0 4 "_law_number" ["pen"] spNumber := by
  have G__law_take : Ok P w K mg base CX0 2 "_law_take" ["pen", "amount"] spTake := ok_take T.toTPen
  have G__law_one_of : Ok P w K mg base CX0 3 "_law_one_of" ["pen", "some"] spPick := ok_pick T
  refine T.d_number.ok sc__law_number bi__law_number (fun vs H Q E h => ?_) (fun cdv A outer s H f vs Q E hr h => ?_)
  · obtain ⟨p, B, rfl, _⟩ := h
    rfl
  · obtain ⟨p, B, rfl, hp, hB, q⟩ := h
    refine ⟨_, (pss_one (ps_ret (pe_callO G__law_one_of (hr.mono (by decide)) (pa_cons (pv 0) (pa_cons (pe_lst (pa_cons pe_int (pa_cons pe_int (pa_cons pe_int (pa_cons pe_int (pa_cons (pe_callO G__law_take (hr.mono (by decide)) (pa_cons (pv 0) (pa_cons pe_int pa_nil))) pa_nil)))))) pa_nil))))), ?_⟩
    refine ⟨_, rfl, _, rfl, p, 65536, B, rfl, hp, by omega, by decide, by decide, fun H1 r s1 p1 r0 r1 => ?_⟩
    have c1 := (PAt.refl hp).take s1 p1
    refine ⟨sz_of (by show 5 ≤ 100000; decide), fun l nl => ?_⟩
    have c2 := c1.new nl (o := .lst [V.int 0, .int 1, .int 2, .int 65535, .int r])
    refine ⟨p, l, [V.int 0, .int 1, .int 2, .int 65535, .int r], _, rfl, c2.pen, by omega, off_of upd_same (c1.pen.ne nl), (by show 0 < 5; decide), (by show 5 < 1000000; decide), fun H3 x s3 p3 hx => ?_⟩
    have c3 := c2.take s3 p3
    simp only [List.mem_cons, List.not_mem_nil, or_false] at hx
    rcases hx with rfl | rfl | rfl | rfl | rfl
    · exact q H3 _ c3 (by decide) (by decide)
    · exact q H3 _ c3 (by decide) (by decide)
    · exact q H3 _ c3 (by decide) (by decide)
    · exact q H3 _ c3 (by decide) (by decide)
    · exact q H3 _ c3 r0 (by omega)
def spPlain : Sp := fun vs H Q _ => ∃ (p hd : Addr) (n : Int) (B : Nat) (fs : List Int), vs = [.ref p, .ref hd, .int n] ∧ Pen H p B ∧ B ≤ 800000000 ∧ 0 < n ∧ n < 1000000 ∧ hd ≠ p ∧ H hd = some (.lst (fs.map V.int)) ∧ fs.length ≤ 6 ∧ (∀ z ∈ fs, 0 ≤ z ∧ z ≤ 3) ∧
  ∀ H' v d, PAt p (B + 8) H H' → Da (off H' p) v d → noL d = true → okIns false (limsI fs.length) fs d = true → Q v H'
theorem ok_plain (T : TDraw K mg) : Ok P w K mg base CX0 5 "_law_plain_one" ["pen", "heads", "wild"] spPlain := by
  have G__law_take : Ok P w K mg base CX0 2 "_law_take" ["pen", "amount"] spTake := ok_take T.toTPen
  have G__law_one_of : Ok P w K mg base CX0 3 "_law_one_of" ["pen", "some"] spPick := ok_pick T
  have G__law_number : Ok P w K mg base CX0 4 "_law_number" ["pen"] spNumber := ok_number T
  refine T.d_plain.ok sc__law_plain_one bi__law_plain_one (fun vs H Q E h => ?_) (fun cdv A outer s H f vs Q E hr h => ?_)
  · obtain ⟨p, l, n, B, fs, rfl, _⟩ := h
    rfl
  · obtain ⟨p, D, n, B, fs, rfl, hp, hB, n0, n1, nDp, hD, fl6, hfs, q⟩ := h
    refine ⟨_, (pss_cons (ps_set (i := 3) sc__law_plain_one.nd rfl (Or.inl rfl) (pe_lst pa_nil))
    (pss_cons (ps_for PassesOwn.never rfl (pi_enum (by rfl) T.b_enumerate (pa_cons (pv 1) pa_nil)) (pg_tup rfl (pgs_cons (pg_name (i := 4) sc__law_plain_one.nd rfl (Or.inr rfl)) (pgs_cons (pg_name (i := 5) sc__law_plain_one.nd rfl (Or.inl rfl)) pgs_nil))) (pss_one (ps_set (i := 3) sc__law_plain_one.nd rfl (Or.inl rfl) (pe_op op_cat (pv 3) (pe_lc (own := [("field", 6)]) rfl sc__law_plain_one.nd (pi_range1 (by rfl) T.b_range (pa_cons (pv 5) pa_nil)) (blkOk_by (N := N__law_plain_one) (sc := defScope s__law_plain_one) (by decide +kernel)) (fun _ _ _ _ _ => (pg_name (i := 6) sc__law_plain_one.nd rfl (Or.inl rfl))) (fun _ _ _ _ _ => pts_nil) (fun _ _ _ _ _ => (pe_tup (pa_cons (pv 4) (pa_cons (pv 6) pa_nil)))))))))
    (pss_cons (ps_par (i := 7) (j := 8) (by rfl) sc__law_plain_one.nd rfl rfl (by decide) rfl rfl (pa_cons (pe_callO G__law_take (hr.mono (by decide)) (pa_cons (pv 0) (pa_cons pe_int pa_nil))) (pa_cons (pe_callO G__law_take (hr.mono (by decide)) (pa_cons (pv 0) (pa_cons pe_int pa_nil))) pa_nil)) (by rfl))
    (pss_cons (ps_if (pt_cmpR op_eq (pe_callO G__law_take (hr.mono (by decide)) (pa_cons (pv 0) (pa_cons (pv 2) pa_nil))) pe_int (nomark _)) (pss_one (ps_ret (pe_tup (pa_cons pe_str pa_nil)))) pss_nil)
    (pss_cons (ps_if (PW.pt (pw_and (pt_cmpR op_lt (pv 7) pe_int (nomark _)) (pw_and1 (pt_cmpR (op_neD (hu64 hr)) (pv 3) (pe_lst pa_nil) (nomark _))))) (pss_cons (ps_asg (pe_callO G__law_one_of (hr.mono (by decide)) (pa_cons (pv 0) (pa_cons (pv 3) pa_nil))) (pg_tup rfl (pgs_cons (pg_name (i := 4) sc__law_plain_one.nd rfl (Or.inr rfl)) (pgs_cons (pg_name (i := 6) sc__law_plain_one.nd rfl (Or.inl rfl)) pgs_nil))))
    (pss_one (ps_ret (pe_ifExp (pt_cmpR op_lt (pv 7) pe_int (nomark _)) (pe_tup (pa_cons pe_str (pa_cons (pv 8) (pa_cons (pv 4) (pa_cons (pv 6) pa_nil))))) (pe_tup (pa_cons pe_str (pa_cons (pv 4) (pa_cons (pv 6) (pa_cons (pv 8) pa_nil))))))))) pss_nil)
    (pss_cons (ps_set (i := 9) sc__law_plain_one.nd rfl (Or.inl rfl) (pe_lst (pa_cons (pe_tup (pa_cons pe_str (pa_cons (pv 8) (pa_cons (pe_callO G__law_number (hr.mono (by decide)) (pa_cons (pv 0) pa_nil)) pa_nil)))) (pa_cons (pe_tup (pa_cons pe_str (pa_cons (pv 8) (pa_cons (pe_callO G__law_take (hr.mono (by decide)) (pa_cons (pv 0) (pa_cons pe_int pa_nil))) pa_nil)))) (pa_cons (pe_tup (pa_cons pe_str (pa_cons (pv 8) (pa_cons (pe_callO G__law_number (hr.mono (by decide)) (pa_cons (pv 0) pa_nil)) pa_nil)))) pa_nil)))))
    (pss_one (ps_ret (pe_ix ix_list (pv 9) (pe_op op_fdiv (pv 7) pe_int) (fun _ _ => rfl)))))))))), ?_⟩
    -- fields = []
    refine ⟨sz_of (by show 0 ≤ 100000; decide), fun l0 nl0 => ?_⟩
    have C3 := (PAt.refl hp).new nl0 (o := .lst [])
    have hD3 : (upd H l0 (.lst [])) D = some (.lst (fs.map V.int)) := by rw [upd_ne (ne_of_none hD nl0)]; exact hD
    generalize hH3 : upd H l0 (.lst []) = H3 at C3 hD3 ⊢
    have hl0 : H3 l0 = some (.lst []) := by rw [← hH3]; exact upd_same
    refine ⟨_, rfl, D, fs.map V.int, rfl, .inl (.inl hD3), ?_⟩
    refine for_it walk_enum (fun i σ H' => ∃ (l : Addr) (y4 y5 y6 : Option V), σ = [some (.ref p), some (.ref D), some (.int n), some (.ref l), y4, y5, y6, none, none, none] ∧ PAt p B H3 H' ∧ FieldsA H' l fs i ∧ H' D = some (.lst (fs.map V.int)) ∧ l ≠ p)
      ⟨l0, none, none, none, rfl, PAt.refl C3.pen, ⟨[], [], hl0, .nil, Nat.zero_le _, fun z hz => by cases hz⟩, hD3, hp.ne nl0⟩ (fun i σ H' _ ⟨l, y6, y7, y8, _, _, _, h4, _⟩ => .inl (.inl h4)) ?_ ?_
    · rintro i x σ H' H'' hi ⟨l, y6, y7, y8, rfl, cI, fA, hD', lp⟩ ⟨T', x1, x2, rfl, nT, rfl, f1, f2⟩
      obtain rfl : x1 = .int (i : Nat) := (Option.some.inj f1).symm
      rw [List.length_map] at hi
      obtain ⟨z, hz⟩ : ∃ z, fs[i]? = some z := ⟨_, List.getElem?_eq_getElem hi⟩
      obtain rfl : x2 = .int z := by
        have f2' : (fs.map V.int)[i]? = some x2 := f2
        rw [List.getElem?_map, hz] at f2'
        exact (Option.some.inj f2').symm
      obtain ⟨z0, z3⟩ := hfs z (List.mem_of_getElem? hz)
      have cT := (PAt.refl cI.pen).new nT (o := .tup [V.int (i : Nat), .int z])
      have fA2 : FieldsA (upd H' T' (.tup [V.int (i : Nat), .int z])) l fs i := fA.exT (.of (same_new nT)) fun xs h => same_new nT _ _ h
      have hDT : (upd H' T' (.tup [V.int (i : Nat), .int z])) D = some (.lst (fs.map V.int)) := same_new nT _ _ hD'
      refine ⟨T', _, rfl, .inl (.inl upd_same), rfl, _, _, rfl, _, _, rfl, rfl, ?_⟩
      generalize upd H' T' (.tup [V.int (i : Nat), .int z]) = HT at cT fA2 hDT ⊢
      obtain ⟨xs, zs, g1, g2, g3, g4⟩ := fA2
      refine ⟨_, rfl, ?_⟩
      refine tlcI ?_
      refine ⟨_, rfl, z, rfl, by omega, by omega, ?_⟩
      refine lcP (c := 0) (B := B) (n := z.toNat) (fun H v => ∃ f, Da H v (dpT ((i : Nat), f)) ∧ 0 ≤ f ∧ f < z) (fun H H' v e ⟨f, g, gg⟩ => ⟨f, g.exT e rfl, gg⟩) cT.pen (by omega) ?_ (fun k H2 hk c2 Q' q' => ?_) (fun D2 H2 ys c2 nD2 hD2 hlen hys => ?_)
      · exact fun _ => rfl
      · refine ⟨_, rfl, _, rfl, sz_of (by show 2 ≤ 100000; decide), fun a na => ?_⟩
        refine q' _ _ (((PAt.refl c2.pen).new na).mono (by omega)) ⟨(k : Nat), .tup upd_same (.cons (.int _) (.cons (.int _) .nil)), by omega, by omega⟩
      · have hl2 := c2.lst g1 lp
        obtain ⟨ws, w1, w2, w3⟩ := zs_of hys
        have wl : ws.length ≤ 3 := by rw [w2, hlen]; omega
        have xl : xs.length ≤ 3 * i := by rw [g2.len, List.length_map]; exact g3
        refine ⟨l, D2, xs, ys, rfl, rfl, hl2, hD2, sz_of (by omega), fun u nu => ?_⟩
        refine ⟨u, _, _, _, rfl, ((cI.trans cT).trans (c2.mono (B' := B) (by omega))).new nu, ⟨xs ++ ys, zs ++ ws, upd_same, ?_, ?_, fun v hv => ?_⟩, ?_, c2.pen.ne nu⟩
        · rw [List.map_append]
          exact ((g2.exT (c2.exT cT.pen) (zs_noL zs)).app w1).exT (.of (same_new nu)) (noLAll_app (zs_noL zs) (zs_noL ws))
        · rw [List.length_append]
          omega
        · rw [List.mem_append] at hv
          rcases hv with hv | hv
          · exact g4 v hv
          · obtain ⟨q1, q2, q3⟩ := w3 v hv
            rw [q1]
            refine ⟨by omega, by omega, q2, ?_⟩
            rw [show ((i : Nat) : Int).toNat = i by omega, List.getD_eq_getElem?_getD, hz]
            exact q3
        · exact same_new nu _ _ (c2.lst hDT nDp)
    rintro σ H4 ⟨l, y6, y7, y8, rfl, C4, fA, hD4, lp⟩
    rw [List.length_map] at fA
    have C4' := C3.trans C4
    have hf := fA.ok C4.pen lp (by omega)
    -- way, slot
    refine ⟨_, rfl, p, 9, B, rfl, C4.pen, by omega, by decide, by decide, fun H5 way s5 p5 wy0 wy1 => ?_⟩
    have c5 := (PAt.refl C4.pen).take s5 p5
    refine ⟨_, rfl, p, 3, _, rfl, c5.pen, by omega, by decide, by decide, fun H6 zs s6 p6 zs0 zs1 => ?_⟩
    have c6 := c5.take s6 p6
    refine ⟨_, _, rfl, ?_⟩
    show tSeq _ _ _ _ _
    refine ⟨_, rfl, _, rfl, p, n, _, rfl, c6.pen, by omega, n0, by omega, fun H7 r s7 p7 r0 r1 => ?_⟩
    have c7 := c6.take s7 p7
    have hf7 := hf.ex c7.ex
    have C7 := C4'.trans c7
    refine ⟨rfl, _, rfl, ite2 (fun _ => ?_) (fun _ => ?_)⟩
    · refine ⟨sz_of (by show 1 ≤ 100000; decide), fun a n => ?_⟩
      exact q _ _ _ ((C7.new n).mono (by omega)) (da_tupN (ds := [.str "fail"]) C7.pen n (.cons (.str _) .nil)) rfl (by rfl)
    obtain ⟨xs, us, hl, hda, hln, hus⟩ := hf7
    -- one of three
    have first : ∀ H8, PAt p (B + 3) H H8 → ∀ D' : Ends, D'.rt = Q → tSeq (tAsg (tLst (tCons (tTup (tCons (tC (.str "number")) (tCons (tVar 8) (tCons (tCall spNumber [] E0 (tCons (tVar 0) tNil)) tNil))))
          (tCons (tTup (tCons (tC (.str "copy")) (tCons (tVar 8) (tCons (tCall spTake [] E0 (tCons (tVar 0) (tCons (tC (.int 3)) tNil))) tNil))))
          (tCons (tTup (tCons (tC (.str "add")) (tCons (tVar 8) (tCons (tCall spNumber [] E0 (tCons (tVar 0) tNil)) tNil)))) tNil)))) (gName 9))
          (tRet (tOp (rIxL K) (tVar 9) (tOp (rI CDiv fun i j => V.int (i / j)) (tVar 7) (tC (.int 4))))) D' [some (.ref p), some (.ref D), some (.int n), some (.ref l), y6, y7, y8, some (.int way), some (.int zs), none] H8 := by
      intro H8 c8 D' hD'
      refine ⟨_, rfl, _, rfl, p, _, rfl, c8.pen, by omega, fun H9 i9 c9 i90 i91 => ?_⟩
      have C9 := c8.trans c9
      refine ⟨sz_of (by show 3 ≤ 100000; decide), fun a1 n1 => ?_⟩
      have d1 := da_tupN (ds := [.str "number", .int zs, .int i9]) C9.pen n1 (.cons (.str _) (.cons (.int zs) (.cons (.int i9) .nil)))
      have c10 := C9.new n1 (o := .tup [V.str "number", .int zs, .int i9])
      refine ⟨_, rfl, _, rfl, p, 3, _, rfl, c10.pen, by omega, by decide, by decide, fun H11 z11 s11 p11 z110 z111 => ?_⟩
      have c11 := c10.take s11 p11
      refine ⟨sz_of (by show 3 ≤ 100000; decide), fun a2 n2 => ?_⟩
      have d2 := da_tupN (ds := [.str "copy", .int zs, .int z11]) c11.pen n2 (.cons (.str _) (.cons (.int zs) (.cons (.int z11) .nil)))
      have e2 := da_new (o := .tup [V.str "copy", .int zs, .int z11]) (d1.ex s11) n2
      have c12 := c11.new n2 (o := .tup [V.str "copy", .int zs, .int z11])
      refine ⟨_, rfl, _, rfl, p, _, rfl, c12.pen, by omega, fun H13 i13 c13 i130 i131 => ?_⟩
      have C13 := c12.trans c13
      refine ⟨sz_of (by show 3 ≤ 100000; decide), fun a3 n3 => ?_⟩
      have d3 := da_tupN (ds := [.str "add", .int zs, .int i13]) C13.pen n3 (.cons (.str _) (.cons (.int zs) (.cons (.int i13) .nil)))
      have c14 := C13.new n3 (o := .tup [V.str "add", .int zs, .int i13])
      have e3 := da_new (o := .tup [V.str "add", .int zs, .int i13]) (e2.ex c13.ex) n3
      have f3 := da_new (o := .tup [V.str "add", .int zs, .int i13]) (d2.ex c13.ex) n3
      refine ⟨sz_of (by show 3 ≤ 100000; decide), fun l6 n6 => ?_⟩
      have c15 := (c14.new n6 (o := .lst [V.ref a1, .ref a2, .ref a3])).mono (B' := B + 8) (by omega)
      have hl6 : (upd (upd H13 a3 (.tup [V.str "add", .int zs, .int i13])) l6 (.lst [V.ref a1, .ref a2, .ref a3])) l6 = some (.lst [V.ref a1, .ref a2, .ref a3]) := upd_same
      have w3 : way / 4 = 0 ∨ way / 4 = 1 ∨ way / 4 = 2 := by omega
      rcases w3 with w | w | w
      · refine ⟨_, rfl, _, rfl, way, 4, rfl, rfl, ⟨by decide, by decide⟩, l6, _, way / 4, V.ref a1, rfl, rfl, .inl (.inl hl6), by rw [w]; rfl, ?_⟩
        rw [hD']
        exact q _ _ _ c15 (da_new e3 n6) rfl (ins2 rfl (op_slot zs0 zs1) (op_num i90 i91))
      · refine ⟨_, rfl, _, rfl, way, 4, rfl, rfl, ⟨by decide, by decide⟩, l6, _, way / 4, V.ref a2, rfl, rfl, .inl (.inl hl6), by rw [w]; rfl, ?_⟩
        rw [hD']
        exact q _ _ _ c15 (da_new f3 n6) rfl (ins2 rfl (op_slot zs0 zs1) (op_slot z110 z111))
      · refine ⟨_, rfl, _, rfl, way, 4, rfl, rfl, ⟨by decide, by decide⟩, l6, _, way / 4, V.ref a3, rfl, rfl, .inl (.inl hl6), by rw [w]; rfl, ?_⟩
        rw [hD']
        exact q _ _ _ c15 (da_new d3 n6) rfl (ins2 rfl (op_slot zs0 zs1) (op_num i130 i131))
    have go : tSeq (tAsg (tLst (tCons (tTup (tCons (tC (.str "number")) (tCons (tVar 8) (tCons (tCall spNumber [] E0 (tCons (tVar 0) tNil)) tNil))))
          (tCons (tTup (tCons (tC (.str "copy")) (tCons (tVar 8) (tCons (tCall spTake [] E0 (tCons (tVar 0) (tCons (tC (.int 3)) tNil))) tNil))))
          (tCons (tTup (tCons (tC (.str "add")) (tCons (tVar 8) (tCons (tCall spNumber [] E0 (tCons (tVar 0) tNil)) tNil)))) tNil)))) (gName 9))
          (tRet (tOp (rIxL K) (tVar 9) (tOp (rI CDiv fun i j => V.int (i / j)) (tVar 7) (tC (.int 4))))) { nx := fun _ H' => Q .non H', rt := Q } [some (.ref p), some (.ref D), some (.int n), some (.ref l), y6, y7, y8, some (.int way), some (.int zs), none] H7 := first H7 (C7.mono (by omega)) _ rfl
    show tSeq _ _ _ _ _
    refine ⟨_, rfl, way, 6, rfl, rfl, _, rfl, ite2 (fun _ => ?_) (fun _ => go)⟩
    refine ⟨_, rfl, sz_of (by show 0 ≤ 100000; decide), fun l1 n1 => ?_⟩
    have c8 := c7.new n1 (o := .lst [])
    have C8 := C7.new n1 (o := .lst [])
    have hl' := off_sub _ _ (off_mono (same_new n1 (o := .lst [])) _ _ hl)
    refine ⟨.list (us.map dpT), .list [], .lst (.inl (.inl hl')) (DaAll.dp (zs_no us) (hda.ex fun b o e => off_sub _ _ (off_mono (same_new n1) b o e))), .lst (.inl (.inl upd_same)) .nil, zs_shaped us, zs_shaped [], _, rfl, ite2 (fun hne => ?_) (fun _ => first _ (C8.mono (by omega)) _ rfl)⟩
    have hne : us ≠ [] := fun z => by
      rw [z] at hne
      exact absurd hne (by decide)
    have hpos : 0 < xs.length := by
      rw [hda.len]
      cases us with
      | nil => exact absurd rfl hne
      | cons z r => exact Nat.succ_pos _
    have hl5 := off_mono (same_new n1 (o := .lst [])) _ _ hl
    refine ⟨_, rfl, _, rfl, p, l, xs, _, rfl, C8.pen, by omega, hl5, hpos, by rw [hda.len, List.length_map]; omega, fun H9 x s9 p9 hx => ?_⟩
    have C9 := C8.take s9 p9
    obtain ⟨i, hi⟩ := List.getElem?_of_mem hx
    obtain ⟨d, hd, dd⟩ := hda.at hi
    rw [List.getElem?_map] at hd
    obtain ⟨z, hz, rfl⟩ := Option.map_eq_some_iff.mp hd
    obtain ⟨u0, u1, v0, v1⟩ := hus z (List.mem_of_getElem? hz)
    have dd6 : Da (off H9 p) x (.tuple [.int z.1, .int z.2]) := dd.ex ((off_mono (same_new n1)).trans s9)
    cases dd6 with
    | @tup t ys _ ht hys =>
    cases hys with
    | @cons w1 r1 _ _ g1 hys =>
    cases hys with
    | @cons w2 r2 _ _ g2 hys =>
    cases hys
    cases g1
    cases g2
    refine ⟨t, _, rfl, st_ofD (off_sub _ _ ht), rfl, _, _, rfl, _, _, rfl, rfl, ?_⟩
    refine ⟨_, rfl, way, 3, rfl, rfl, _, rfl, ite2 (fun _ => ?_) (fun _ => ?_)⟩
    · refine ⟨_, rfl, _, rfl, _, rfl, sz_of (by show 4 ≤ 100000; decide), fun a n => ?_⟩
      exact q _ _ _ ((C9.new n).mono (by omega)) (da_tupN (ds := [.str "read", .int zs, .int z.1, .int z.2]) C9.pen n (.cons (.str _) (.cons (.int zs) (.cons (.int _) (.cons (.int _) .nil))))) rfl
        (ins3 rfl (op_slot zs0 zs1) (op_unit u0 (by omega)) (op_field v0 v1))
    · refine ⟨_, rfl, _, rfl, _, rfl, sz_of (by show 4 ≤ 100000; decide), fun a n => ?_⟩
      exact q _ _ _ ((C9.new n).mono (by omega)) (da_tupN (ds := [.str "write", .int z.1, .int z.2, .int zs]) C9.pen n (.cons (.str _) (.cons (.int _) (.cons (.int _) (.cons (.int zs) .nil))))) rfl
        (ins3 rfl (op_unit u0 (by omega)) (op_field v0 v1) (op_slot zs0 zs1))
theorem ints_no (zs : List Int) : PyData.hasDictAll (zs.map PyData.int) = false := by
  induction zs with
  | nil => rfl
  | cons z r ih => rw [List.map_cons, PyData.hasDictAll, ih]; rfl
theorem ints_shaped (zs : List Int) : SeqAt.shaped (.list (zs.map PyData.int)) = true := by
  have lay : PyData.canLayAll0 (zs.map PyData.int) = true := by
    induction zs with
    | nil => rfl
    | cons z r ih => rw [List.map_cons, PyData.canLayAll0, ih]; rfl
  have deep : PyData.depthAll (zs.map PyData.int) = 0 := by
    induction zs with
    | nil => rfl
    | cons z r ih =>
      have ih' := ih (by
        rw [List.map_cons, PyData.canLayAll0, Bool.and_eq_true] at lay
        exact lay.2)
      rw [List.map_cons, PyData.depthAll, ih']
      rfl
  unfold SeqAt.shaped
  rw [Bool.and_eq_true]
  refine ⟨lay, decide_eq_true ?_⟩
  show PyData.depthAll _ + 1 ≤ 64
  omega
theorem ints_da {H : Hp} : ∀ (zs : List Int), DaAll H (zs.map V.int) (zs.map PyData.int)
  | [] => .nil
  | z :: r => .cons (.int z) (ints_da r)
def spAny : Sp := fun vs H Q _ => ∃ (p hd cl : Addr) (n place : Int) (B many : Nat) (fs cs : List Int) (number nf : Int), vs = [.ref p, .ref hd, .int place, .int (many : Nat), .ref cl, .int n] ∧ Pen H p B ∧ B ≤ 700000000 ∧ 0 < n ∧ n < 1000000 ∧ hd ≠ p ∧ H hd = some (.lst (fs.map V.int)) ∧
  fs.length ≤ 6 ∧ 1 ≤ fs.length ∧ (∀ z ∈ fs, 0 ≤ z ∧ z ≤ 3) ∧ cl ≠ p ∧ H cl = some (.lst (cs.map V.int)) ∧ cs.length ≤ 10 ∧ (∀ c ∈ cs, number + 1 ≤ c ∧ c ≤ nf - 1) ∧ 0 ≤ place ∧ place < (many : Int) ∧ many ≤ 8 ∧
  ∀ H' v d, PAt p (B + 12) H H' → Da (off H' p) v d → noL d = true → okIns true (limsF fs.length many number nf place) fs d = true → Q v H'
theorem ok_any (T : TDraw K mg) : Ok P w K mg base CX0 6 "_law_any_one" ["pen", "heads", "place", "size", "callees", "wild"] spAny := by
  have G__law_take : Ok P w K mg base CX0 2 "_law_take" ["pen", "amount"] spTake := ok_take T.toTPen
  have G__law_one_of : Ok P w K mg base CX0 3 "_law_one_of" ["pen", "some"] spPick := ok_pick T
  have G__law_plain_one : Ok P w K mg base CX0 5 "_law_plain_one" ["pen", "heads", "wild"] spPlain := ok_plain T
  refine T.d_any.ok sc__law_any_one bi__law_any_one (fun vs H Q E h => ?_) (fun cdv A outer s H f vs Q E hr h => ?_)
  · obtain ⟨p, hd, cl, n, place, B, many, fs, cs, number, nf, rfl, _⟩ := h
    rfl
  · obtain ⟨p, hd, cl, n, place, B, many, fs, cs, number, nf, rfl, hp, hB, n0, n1, hdp, hhd, fl6, fl1, hfs, clp, hcl, cl10, hcs, pl0, pl1, mn8, q⟩ := h
    refine ⟨_, (pss_cons (ps_par (i := 6) (j := 7) (by rfl) sc__law_any_one.nd rfl rfl (by decide) rfl rfl (pa_cons (pe_callO G__law_take (hr.mono (by decide)) (pa_cons (pv 0) (pa_cons pe_int pa_nil))) (pa_cons (pe_callO G__law_take (hr.mono (by decide)) (pa_cons (pv 0) (pa_cons pe_int pa_nil))) pa_nil)) (by rfl))
    (pss_cons (ps_if (pt_cmpR op_eq (pv 6) pe_int (nomark _)) (pss_one (ps_ret (pe_tup (pa_cons pe_str (pa_cons (pv 7) pa_nil))))) pss_nil)
    (pss_cons (ps_if (pt_cmpR op_eq (pv 6) pe_int (nomark _)) (pss_one (ps_ret (pe_tup (pa_cons pe_str (pa_cons (pv 7) pa_nil))))) pss_nil)
    (pss_cons (ps_if (pt_cmpR op_lt (pv 6) pe_int (nomark _)) (pss_one (ps_ret (pe_tup (pa_cons pe_str (pa_cons (pe_callO G__law_one_of (hr.mono (by decide)) (pa_cons (pv 0) (pa_cons (pe_lst (pa_cons (pe_callO G__law_take (hr.mono (by decide)) (pa_cons (pv 0) (pa_cons (pe_op op_add (pv 3) pe_int) pa_nil))) (pa_cons (pe_callB (call_min2 rfl) (by rfl) T.b_min (by decide +kernel) (pa_cons (pv 3) (pa_cons (pe_op op_add (pv 2) pe_int) pa_nil))) (pa_cons (pv 3) pa_nil)))) pa_nil))) pa_nil))))) pss_nil)
    (pss_cons (ps_if (PW.pt (pw_and (pt_cmpR op_lt (pv 6) pe_int (nomark _)) (pw_and1 (pt_cmpR (op_neD (hu64 hr)) (pv 4) (pe_lst pa_nil) (nomark _))))) (pss_one (ps_ret (pe_tup (pa_cons pe_str (pa_cons (pe_callO G__law_one_of (hr.mono (by decide)) (pa_cons (pv 0) (pa_cons (pv 4) pa_nil))) pa_nil))))) pss_nil)
    (pss_cons (ps_if (pt_cmpR op_lt (pv 6) pe_int (nomark _)) (pss_one (ps_ret (pe_tup (pa_cons pe_str (pa_cons (pe_callO G__law_take (hr.mono (by decide)) (pa_cons (pv 0) (pa_cons (pe_callB call_len_seq (by rfl) T.b_len (by decide +kernel) (pa_cons (pv 1) pa_nil)) pa_nil))) (pa_cons (pe_op op_add (pe_op op_add (pv 2) pe_int) (pe_callO G__law_take (hr.mono (by decide)) (pa_cons (pv 0) (pa_cons (pe_op op_sub (pv 3) (pv 2)) pa_nil)))) pa_nil)))))) pss_nil)
    (pss_one (ps_ret (pe_callO G__law_plain_one (hr.mono (by decide)) (pa_cons (pv 0) (pa_cons (pv 1) (pa_cons (pv 5) pa_nil)))))))))))), ?_⟩
    refine ⟨_, rfl, p, 13, B, rfl, hp, by omega, by decide, by decide, fun H1 way s1 p1 wy0 wy1 => ?_⟩
    have c1 := (PAt.refl hp).take s1 p1
    refine ⟨_, rfl, p, 3, _, rfl, c1.pen, by omega, by decide, by decide, fun H2 zs s2 p2 zs0 zs1 => ?_⟩
    have c2 := c1.take s2 p2
    refine ⟨_, _, rfl, ?_⟩
    show tSeq _ _ _ _ _
    refine ⟨_, rfl, rfl, _, rfl, ite2 (fun _ => ?_) (fun _ => ?_)⟩
    · refine ⟨_, rfl, sz_of (by show 2 ≤ 100000; decide), fun a na => ?_⟩
      exact q _ _ _ ((c2.new na).mono (by omega)) (da_tupN (ds := [.str "input", .int zs]) c2.pen na (.cons (.str _) (.cons (.int _) .nil))) rfl (ins1 rfl (okOp_up (op_slot zs0 zs1)))
    show tSeq _ _ _ _ _
    refine ⟨_, rfl, rfl, _, rfl, ite2 (fun _ => ?_) (fun _ => ?_)⟩
    · refine ⟨_, rfl, sz_of (by show 2 ≤ 100000; decide), fun a na => ?_⟩
      exact q _ _ _ ((c2.new na).mono (by omega)) (da_tupN (ds := [.str "show", .int zs]) c2.pen na (.cons (.str _) (.cons (.int _) .nil))) rfl (ins1 rfl (okOp_up (op_slot zs0 zs1)))
    show tSeq _ _ _ _ _
    refine ⟨_, rfl, way, 5, rfl, rfl, _, rfl, ite2 (fun _ => ?_) (fun _ => ?_)⟩
    · refine ⟨_, rfl, _, rfl, _, rfl, (many : Int), 1, rfl, rfl, p, _, _, rfl, c2.pen, by omega, by omega, by omega, fun H3 z3 s3 p3 z30 z31 => ?_⟩
      have c3 := c2.take s3 p3
      refine ⟨_, rfl, _, rfl, place, 2, rfl, rfl, _, _, rfl, _, rfl, sz_of (by show 3 ≤ 100000; decide), fun l nl => ?_⟩
      have c4 := c3.new nl (o := .lst [V.int z3, .int (if place + 2 < (many : Int) then place + 2 else (many : Int)), .int (many : Int)])
      refine ⟨p, l, _, _, rfl, c4.pen, by omega, off_of upd_same (c3.pen.ne nl), (by show 0 < 3; decide), (by show 3 < 1000000; decide), fun H5 x s5 p5 hx => ?_⟩
      have c5 := c4.take s5 p5
      refine ⟨sz_of (by show 2 ≤ 100000; decide), fun a na => ?_⟩
      have go : ∀ i : Int, x = .int i → 0 ≤ i → i ≤ (many : Int) → Q (.ref a) (upd H5 a (.tup [V.str "branch", x])) := by
        rintro i rfl i0 i1
        exact q _ _ _ ((c5.new na).mono (by omega)) (da_tupN (ds := [.str "branch", .int i]) c5.pen na (.cons (.str _) (.cons (.int _) .nil))) rfl (ins1 rfl (op_lim (by decide) (lo := 0) (hi := (many : Int)) rfl i0 i1))
      simp only [List.mem_cons, List.not_mem_nil, or_false] at hx
      rcases hx with rfl | rfl | rfl
      · exact go _ rfl z30 (by omega)
      · exact go _ rfl (by split <;> omega) (by split <;> omega)
      · exact go _ rfl (by omega) (by omega)
    have rest : ∀ H3, PAt p (B + 2) H H3 → tSeq (tIfS (tTest (tOp (rI0 fun i j => V.bl (decide (i < j))) (tVar 6) (tC (.int 9)))) (tRet (tTup (tCons (tC (.str "wake"))
        (tCons (tCall spTake [] E0 (tCons (tVar 0) (tCons (tCB (fun xs H Q => ∃ p ys, xs = [V.ref p] ∧ (SqL K H p ys ∨ SqT K H p ys) ∧ Q (V.int ↑ys.length) H) (tCons (tVar 1) tNil)) tNil)))
        (tCons (tOp (rI0 fun i j => V.int (i + j)) (tOp (rI0 fun i j => V.int (i + j)) (tVar 2) (tC (.int 1))) (tCall spTake [] E0 (tCons (tVar 0) (tCons (tOp (rI0 fun i j => V.int (i - j)) (tVar 3) (tVar 2)) tNil)))) tNil))))) tNext)
        (tRet (tCall spPlain [] E0 (tCons (tVar 0) (tCons (tVar 1) (tCons (tVar 5) tNil))))) { nx := fun _ H' => Q .non H', rt := Q } [some (.ref p), some (.ref hd), some (.int place), some (.int (many : Nat)), some (.ref cl), some (.int n), some (.int way), some (.int zs)] H3 := by
      intro H3 c3
      have hhd3 := c3.lst hhd hdp
      refine ⟨_, rfl, way, 9, rfl, rfl, _, rfl, ite2 (fun _ => ?_) (fun _ => ?_)⟩
      · refine ⟨_, rfl, _, rfl, hd, fs.map V.int, rfl, .inl (.inl (.inl hhd3)), p, _, _, rfl, c3.pen, by omega, by rw [List.length_map]; omega, by rw [List.length_map]; omega, fun H4 z4 s4 p4 z40 z41 => ?_⟩
        rw [List.length_map] at z41
        have c4 := c3.take s4 p4
        refine ⟨_, rfl, place, 1, rfl, rfl, _, rfl, _, rfl, _, rfl, (many : Int), place, rfl, rfl, p, _, _, rfl, c4.pen, by omega, by omega, by omega, fun H5 z5 s5 p5 z50 z51 => ?_⟩
        have c5 := c4.take s5 p5
        refine ⟨_, z5, rfl, rfl, sz_of (by show 3 ≤ 100000; decide), fun a1 n1 => ?_⟩
        exact q _ _ _ ((c5.new n1).mono (by omega)) (da_tupN (ds := [.str "wake", .int z4, .int (place + 1 + z5)]) c5.pen n1 (.cons (.str _) (.cons (.int _) (.cons (.int _) .nil)))) rfl
          (ins2 rfl (okOp_up (op_unit z40 z41)) (op_lim (by decide) (lo := place + 1) (hi := (many : Int)) rfl (by omega) (by omega)))
      · refine ⟨_, rfl, _, rfl, _, rfl, p, hd, n, _, fs, rfl, c3.pen, by omega, n0, n1, hdp, hhd3, fl6, hfs, fun H4 v d c4 dd nl ok => ?_⟩
        exact q _ _ _ ((c3.trans c4).mono (by omega)) dd nl (okIns_up ok)
    show tSeq _ _ _ _ _
    refine ⟨_, rfl, way, 7, rfl, rfl, _, rfl, ite2 (fun _ => ?_) (fun _ => rest H2 (c2.mono (by omega)))⟩
    refine ⟨_, rfl, sz_of (by show 0 ≤ 100000; decide), fun l1 nl1 => ?_⟩
    have c3 := c2.new nl1 (o := .lst [])
    have hcl3 := c3.lst hcl clp
    refine ⟨.list (cs.map PyData.int), .list [], .lst (.inl (.inl hcl3)) (DaAll.dp (ints_no cs) (ints_da cs)), .lst (.inl (.inl upd_same)) .nil, ints_shaped cs, ints_shaped [], _, rfl, ite2 (fun hne => ?_) (fun _ => rest _ (c3.mono (by omega)))⟩
    have hpos : 0 < (cs.map V.int).length := by
      cases cs with
      | nil => exact absurd hne (by decide)
      | cons z r => exact Nat.succ_pos _
    refine ⟨_, rfl, _, rfl, p, cl, _, _, rfl, c3.pen, by omega, off_of hcl3 clp, hpos, by rw [List.length_map]; omega, fun H4 x s4 p4 hx => ?_⟩
    have c4 := c3.take s4 p4
    obtain ⟨c, hc, rfl⟩ := List.mem_map.mp hx
    obtain ⟨h0, h1⟩ := hcs c hc
    refine ⟨sz_of (by show 2 ≤ 100000; decide), fun a na => ?_⟩
    exact q _ _ _ ((c4.new na).mono (by omega)) (da_tupN (ds := [.str "call", .int c]) c4.pen na (.cons (.str _) (.cons (.int _) .nil))) rfl (ins1 rfl (op_lim (by decide) (lo := number + 1) (hi := nf - 1) rfl h0 h1))
theorem lcPi {te : TE} {σ : L2.St} {vs : List Nat} {j : Nat} {Q : VK} {p : Addr} {B c n : Nat} {H1 : Hp} (Good : Nat → Hp → V → Prop) (hG : ∀ k H H' v, ExT H H' → Good k H v → Good k H' v) (pen : Pen H1 p B) (hn : n ≤ 1000) (hw : ∀ x, wipe ((wipe σ vs).set j (some x)) vs = wipe σ vs)
    (he : ∀ (k : Nat) H2, k < n → PAt p (B + c * k) H1 H2 → ∀ Q' : VK, (∀ y H3, PAt p (B + c * (k + 1)) H2 H3 → Good k H3 y → Q' y H3) → te ((wipe σ vs).set j (some (.int (k : Nat)))) H2 Q')
    (hd : ∀ D H2 ys, PAt p (B + c * n) H1 H2 → H1 D = none → H2 D = some (.lst ys) → ys.length = n → (∀ k y, ys[k]? = some y → Good k H2 y) → Q (.ref D) H2) : LcRest te σ vs j Q n H1 := by
  intro D hD
  refine lc_it (walk_range (lo := 0) (n := n)) (fun i H' => PAt p (B + c * i) H1 H' ∧ ∃ ys, H' D = some (.lst ys) ∧ ys.length = i ∧ ∀ k y, ys[k]? = some y → Good k H' y) ⟨(PAt.refl pen).new hD, [], upd_same, rfl, fun k y hy => by cases hy⟩ (fun _ _ _ _ => trivial) ?_ ?_
  · rintro i x H' H'' hi ⟨c1, ys, h1, h2, h3⟩ ⟨rfl, rfl⟩
    refine ⟨hw _, ?_⟩
    show te ((wipe σ vs).set j (some (.int (0 + (i : Int))))) _ _
    rw [show (0 : Int) + (i : Int) = (i : Int) from Int.zero_add _]
    refine he i _ hi c1 _ fun y H3 c2 g => ?_
    have hD3 : H3 D = some (.lst ys) := off_sub _ _ (c2.ex _ _ (off_of h1 (pen.ne hD)))
    have eT := ExT.lst (o := .lst (ys ++ [y])) hD3
    have e2 := (c2.exT c1.pen).trans eT
    refine ⟨ys, hD3, sz_lt (by omega), (c1.trans c2).upd pen hD, ys ++ [y], upd_same, by rw [List.length_append, h2]; rfl, ?_⟩
    refine at_snoc (fun k z hz => hG _ _ _ _ e2 (h3 k z hz)) ?_
    rw [h2]
    exact hG _ _ _ _ eT g
  · rintro H' ⟨c1, ys, h1, h2, h3⟩
    exact hd D H' ys c1 hD h1 h2 h3
theorem das_ofi {H : Hp} {ys : List V} : ∀ {G : Nat → PyData → Prop}, (∀ k y, ys[k]? = some y → ∃ d, Da H y d ∧ G k d) → ∃ ds, DaAll H ys ds ∧ ∀ k d, ds[k]? = some d → G k d := by
  induction ys with
  | nil => exact fun _ => ⟨[], .nil, fun k d h => by cases h⟩
  | cons y r ih =>
    intro G h
    obtain ⟨ds, h1, hc⟩ := ih (G := fun k => G (k + 1)) fun k z hz => h (k + 1) z hz
    obtain ⟨d, h0, g⟩ := h 0 y rfl
    refine ⟨d :: ds, .cons h0 h1, fun k e hk => ?_⟩
    cases k with
    | zero =>
      cases hk
      exact g
    | succ k => exact hc k e hk
/-- the parent of a unit drawn -/
theorem parentP {tz : TS} {D : Ends} {σ : L2.St} {H : Hp} {p : Addr} {B i : Nat} (pen : Pen H p B) (hB : B ≤ 900000000) (hi : i < 1000) (hu : σ[7]? = some (some (.int (i : Nat)))) (hp : σ[0]? = some (some (.ref p)))
    (go : ∀ H5 v d, PAt p (B + 2) H H5 → Da H5 v d → (isNonD d || isIn d 0 ((i : Int) - 1)) = true → noL d = true → tz D (σ.set 9 (some v)) H5) :
    tSeq (tAsg (tIf (tOr (tTest (tOp rEq (tVar 7) (tC (.int 0)))) (tTest (tOp rEq (tCall spTake [] E0 (tCons (tVar 0) (tCons (tC (.int 2)) tNil))) (tC (.int 0))))) (tC .non) (tCall spTake [] E0 (tCons (tVar 0) (tCons (tVar 7) tNil)))) (gName 9)) tz D σ H := by
  refine ⟨_, hu, rfl, _, rfl, ite2 (fun _ => go H .non .none ((PAt.refl pen).mono (by omega)) .non rfl rfl) (fun h => ?_)⟩
  have h0 : i ≠ 0 := fun z => by
    subst z
    exact absurd h (by decide)
  refine ⟨_, hp, p, 2, B, rfl, pen, by omega, by decide, by decide, fun H4 r s4 p4 r0 r1 => ?_⟩
  have c4 := (PAt.refl pen).take s4 p4
  refine ⟨rfl, _, rfl, ite2 (fun _ => go H4 .non .none (c4.mono (by omega)) .non rfl rfl) (fun _ => ?_)⟩
  refine ⟨_, hp, _, hu, p, _, _, rfl, c4.pen, by omega, by omega, by omega, fun H5 r s5 p5 r0 r1 => ?_⟩
  refine go H5 (.int r) (.int r) (c4.take s5 p5) (.int r) ?_ rfl
  rw [isIn_of r0 (by omega), Bool.or_true]
theorem asgTupLc {ta tb : TA} {te : TE} {g : TG} {σ : L2.St} {vs : List Nat} {j : Nat} {tz : TS} {D : Ends} {H : Hp} (h : ta σ H fun xs H1 => ∃ n : Int, xs = [.int n] ∧ -(2 ^ 62) ≤ n ∧ n < 2 ^ 62 ∧
    LcRest te σ vs j (fun v H2 => tb σ H2 fun us H3 => (v :: us).length ≤ sizeLine ∧ ∀ p, H3 p = none → g (.ref p) σ (upd H3 p (.tup (v :: us))) fun σ' H' => tz D σ' H') n.toNat H1) :
    tSeq (tAsg (tTup (tCons (tLc (iRng1 ta) (gName j) tYes te vs) tb)) g) tz D σ H := h
def spDraw : Sp := fun vs H Q _ => ∃ (p : Addr) (B : Nat) (m n : Int), vs = [.ref p, .int m, .int n] ∧ Pen H p B ∧ B ≤ 10000000 ∧ 0 < m ∧ m ≤ 6 ∧ 0 < n ∧ n ≤ 1000 ∧ ∀ H' v d, PAt p (B + 10000) H H' → Da H' v d → noL d = true → okProg d = true → Q v H'
theorem ok_prog (T : TDraw K mg) : Ok P w K mg base CX0 7 "_law_draw_program" ["pen", "many", "wild"] spDraw := by
  have G__law_take : Ok P w K mg base CX0 2 "_law_take" ["pen", "amount"] spTake := ok_take T.toTPen
  have G__law_one_of : Ok P w K mg base CX0 3 "_law_one_of" ["pen", "some"] spPick := ok_pick T
  have G__law_plain_one : Ok P w K mg base CX0 5 "_law_plain_one" ["pen", "heads", "wild"] spPlain := ok_plain T
  have G__law_any_one : Ok P w K mg base CX0 6 "_law_any_one" ["pen", "heads", "place", "size", "callees", "wild"] spAny := ok_any T
  refine T.d_prog.ok sc__law_draw_program bi__law_draw_program (fun vs H Q E h => ?_) (fun cdv A outer s H f vs Q E hr h => ?_)
  · obtain ⟨p, B, m, n, rfl, _⟩ := h
    rfl
  · obtain ⟨p, B, m, n, rfl, hp, hB, m0, m1, n0, n1, q⟩ := h
    refine ⟨_, (pss_cons (ps_asg (pe_tup (pa_cons (pe_lc (own := [("k", 6)]) rfl sc__law_draw_program.nd (pi_range1 (by rfl) T.b_range (pa_cons (pe_op op_add pe_int (pe_callO G__law_take (hr.mono (by decide)) (pa_cons (pv 0) (pa_cons (pv 1) pa_nil)))) pa_nil)) (blkOk_by (N := N__law_draw_program) (sc := defScope s__law_draw_program) (by decide +kernel)) (fun _ _ _ _ _ => (pg_name (i := 6) sc__law_draw_program.nd rfl (Or.inl rfl))) (fun _ _ _ _ _ => pts_nil) (fun _ _ _ _ _ => (pe_callO G__law_one_of (hr.mono (by decide)) (pa_cons (pv 0) (pa_cons (pe_lst (pa_cons pe_int (pa_cons pe_int (pa_cons pe_int (pa_cons pe_int (pa_cons pe_int pa_nil)))))) pa_nil))))) (pa_cons (pe_lst pa_nil) (pa_cons (pe_lst pa_nil) pa_nil)))) (pg_tup rfl (pgs_cons (pg_name (i := 3) sc__law_draw_program.nd rfl (Or.inr rfl)) (pgs_cons (pg_name (i := 4) sc__law_draw_program.nd rfl (Or.inl rfl)) (pgs_cons (pg_name (i := 5) sc__law_draw_program.nd rfl (Or.inl rfl)) pgs_nil)))))
    (pss_cons (ps_for PassesOwn.never rfl (pi_enum (by rfl) T.b_enumerate (pa_cons (pv 3) pa_nil)) (pg_tup rfl (pgs_cons (pg_name (i := 7) sc__law_draw_program.nd rfl (Or.inl rfl)) (pgs_cons (pg_name (i := 8) sc__law_draw_program.nd rfl (Or.inl rfl)) pgs_nil))) (pss_cons (ps_set (i := 9) sc__law_draw_program.nd rfl (Or.inl rfl) (pe_ifExp (PW.pt (pw_or (pt_cmpR op_eq (pv 7) pe_int (nomark _)) (pw_or1 (pt_cmpR op_eq (pe_callO G__law_take (hr.mono (by decide)) (pa_cons (pv 0) (pa_cons pe_int pa_nil))) pe_int (nomark _))))) pe_non (pe_callO G__law_take (hr.mono (by decide)) (pa_cons (pv 0) (pa_cons (pv 7) pa_nil)))))
    (pss_cons (ps_setLc (i := 10) (own := [("k", 6)]) (g := gName 6) rfl sc__law_draw_program.nd rfl rfl (sw_true rfl rfl rfl (by decide +kernel)) (pi_range1 (by rfl) T.b_range (pa_cons (pe_callO G__law_take (hr.mono (by decide)) (pa_cons (pv 0) (pa_cons pe_int pa_nil))) pa_nil)) (blkOk_by (N := N__law_draw_program) (sc := defScope s__law_draw_program) (by decide +kernel)) (fun _ _ _ _ _ => (pg_name (i := 6) sc__law_draw_program.nd rfl (Or.inl rfl))) (fun _ _ _ _ _ => pts_nil) (fun _ _ _ _ _ => (pe_callO G__law_plain_one (hr.mono (by decide)) (pa_cons (pv 0) (pa_cons (pv 3) (pa_cons (pv 2) pa_nil))))))
    (pss_one (ps_expr (pe_bm PySem.F.plainAttrs_list PySem.F.slot_list_append PySem.F.type_list_append mt_append (pv 4) (pa_cons (pe_tup (pa_cons (pv 9) (pa_cons (pv 8) (pa_cons (pe_callTy call_tuple_of (by rfl) T.b_tuple (by decide +kernel) (pa_cons (pv 10) pa_nil)) pa_nil)))) pa_nil)))))))
    (pss_cons (ps_set (i := 11) sc__law_draw_program.nd rfl (Or.inl rfl) (pe_op op_add pe_int (pe_callO G__law_take (hr.mono (by decide)) (pa_cons (pv 0) (pa_cons pe_int pa_nil)))))
    (pss_cons (ps_for PassesOwn.never rfl (pi_range1 (by rfl) T.b_range (pa_cons (pv 11) pa_nil)) (pg_name (i := 12) sc__law_draw_program.nd rfl (Or.inl rfl)) (pss_cons (ps_asg (pe_tup (pa_cons (pe_op op_add pe_int (pe_callO G__law_take (hr.mono (by decide)) (pa_cons (pv 0) (pa_cons pe_int pa_nil)))) (pa_cons (pe_listRg rfl (by rfl) T.b_list (prg_2 (by rfl) T.b_range (pe_op op_add (pv 12) pe_int) (pv 11))) pa_nil))) (pg_tup rfl (pgs_cons (pg_name (i := 13) sc__law_draw_program.nd rfl (Or.inr rfl)) (pgs_cons (pg_name (i := 14) sc__law_draw_program.nd rfl (Or.inr rfl)) pgs_nil))))
    (pss_cons (ps_setLc (i := 10) (own := [("place", 15)]) (g := gName 15) rfl sc__law_draw_program.nd rfl rfl (sw_true rfl rfl rfl (by decide +kernel)) (pi_range1 (by rfl) T.b_range (pa_cons (pv 13) pa_nil)) (blkOk_by (N := N__law_draw_program) (sc := defScope s__law_draw_program) (by decide +kernel)) (fun _ _ _ _ _ => (pg_name (i := 15) sc__law_draw_program.nd rfl (Or.inl rfl))) (fun _ _ _ _ _ => pts_nil) (fun _ _ _ _ _ => (pe_callO G__law_any_one (hr.mono (by decide)) (pa_cons (pv 0) (pa_cons (pv 3) (pa_cons (pv 15) (pa_cons (pv 13) (pa_cons (pv 14) (pa_cons (pe_op op_mul pe_int (pv 2)) pa_nil)))))))))
    (pss_one (ps_expr (pe_bm PySem.F.plainAttrs_list PySem.F.slot_list_append PySem.F.type_list_append mt_append (pv 5) (pa_cons (pe_tup (pa_cons (pe_callO G__law_take (hr.mono (by decide)) (pa_cons (pv 0) (pa_cons (pe_callB call_len_seq (by rfl) T.b_len (by decide +kernel) (pa_cons (pv 3) pa_nil)) pa_nil))) (pa_cons (pe_callTy call_tuple_of (by rfl) T.b_tuple (by decide +kernel) (pa_cons (pv 10) pa_nil)) pa_nil))) pa_nil)))))))
    (pss_one (ps_ret (pe_tup (pa_cons (pe_callTy call_tuple_of (by rfl) T.b_tuple (by decide +kernel) (pa_cons (pv 4) pa_nil)) (pa_cons (pe_callTy call_tuple_of (by rfl) T.b_tuple (by decide +kernel) (pa_cons (pv 5) pa_nil)) pa_nil))))))))), ?_⟩
    -- heads
    refine asgTupLc ?_
    refine ⟨_, rfl, _, rfl, p, m, B, rfl, hp, by omega, by omega, by omega, fun H1 r s1 p1 r0 r1 => ?_⟩
    have c1 := (PAt.refl hp).take s1 p1
    refine ⟨1, r, rfl, rfl, _, rfl, by omega, by omega, ?_⟩
    refine lcP (c := 1) (B := B + 1) (n := (1 + r).toNat) (fun H v => ∃ i, v = .int i ∧ 0 ≤ i ∧ i ≤ 3) (fun _ _ _ _ g => g) c1.pen (by omega) ?_ (fun k H2 hk c2 Q' q' => ?_) (fun D H2 ys c2 nD hD hlen hys => ?_)
    · exact fun _ => rfl
    · refine ⟨_, rfl, sz_of (by show 5 ≤ 100000; decide), fun l nl => ?_⟩
      have c3 := c2.new nl (o := .lst [V.int 0, .int 1, .int 1, .int 2, .int 3])
      refine ⟨p, l, [V.int 0, .int 1, .int 1, .int 2, .int 3], _, rfl, c3.pen, by omega, off_of upd_same (c2.pen.ne nl), (by show 0 < 5; decide), (by show 5 < 1000000; decide), fun H3 x s3 p3 hx => ?_⟩
      refine q' x H3 ((((PAt.refl c2.pen).new nl).take s3 p3).mono (by omega)) ?_
      simp only [List.mem_cons, List.not_mem_nil, or_false] at hx
      rcases hx with rfl | rfl | rfl | rfl | rfl <;> exact ⟨_, rfl, by decide, by decide⟩
    obtain ⟨fs, rfl, hfs⟩ := ints_of hys
    rw [List.length_map] at hlen
    have fl1 : 1 ≤ fs.length := by omega
    have fl6 : fs.length ≤ 6 := by omega
    have C2 := (c1.trans c2).mono (B' := B + 10) (by omega)
    have nDp : D ≠ p := c1.pen.ne nD
    refine ⟨sz_of (by show 0 ≤ 100000; decide), fun ul nul => ?_⟩
    refine ⟨sz_of (by show 0 ≤ 100000; decide), fun fl nfl => ?_⟩
    refine ⟨sz_of (by show 3 ≤ 100000; decide), fun tt ntt => ?_⟩
    refine ⟨tt, _, rfl, .inl (.inl upd_same), rfl, _, _, rfl, _, _, rfl, _, _, rfl, rfl, ?_⟩
    have C3 := ((C2.new nul (o := .lst [])).new nfl (o := .lst [])).new ntt (o := .tup [V.ref D, .ref ul, .ref fl])
    have nflD : fl ≠ D := fun z => ne_of_none (same_new nul (o := .lst []) _ _ hD) nfl z.symm
    have nulD : ul ≠ D := fun z => ne_of_none hD nul z.symm
    have hD3 : (upd (upd (upd H2 ul (.lst [])) fl (.lst [])) tt (.tup [V.ref D, .ref ul, .ref fl])) D = some (.lst (fs.map V.int)) := same_new ntt _ _ (same_new nfl _ _ (same_new nul _ _ hD))
    have hul3 : (upd (upd (upd H2 ul (.lst [])) fl (.lst [])) tt (.tup [V.ref D, .ref ul, .ref fl])) ul = some (.lst []) := same_new ntt _ _ (same_new nfl _ _ upd_same)
    have hfl3 : (upd (upd (upd H2 ul (.lst [])) fl (.lst [])) tt (.tup [V.ref D, .ref ul, .ref fl])) fl = some (.lst []) := same_new ntt _ _ upd_same
    have ulp : ul ≠ p := C2.pen.ne nul
    have flp : fl ≠ p := (C2.new nul (o := .lst [])).pen.ne nfl
    have flul : fl ≠ ul := fun z => by
      rw [z] at nfl
      rw [upd_same] at nfl
      cases nfl
    have nulH : H ul = none := by
      cases e : H ul with
      | none => rfl
      | some o =>
        have z := C2.ex _ _ (off_of e ulp)
        rw [off_ne ulp, nul] at z
        cases z
    have nflH : H fl = none := by
      cases e : H fl with
      | none => rfl
      | some o =>
        have z := (C2.new nul (o := .lst [])).ex _ _ (off_of e flp)
        rw [off_ne flp, nfl] at z
        cases z
    generalize upd (upd (upd H2 ul (.lst [])) fl (.lst [])) tt (.tup [V.ref D, .ref ul, .ref fl]) = H4 at C3 hD3 hul3 hfl3 ⊢
    -- the units
    show tSeq _ _ _ _ _
    refine ⟨_, rfl, D, fs.map V.int, rfl, .inl (.inl hD3), ?_⟩
    refine for_it walk_enum (fun i σ H' => ∃ (y7 y8 y9 y10 : Option V), σ = [some (.ref p), some (.int m), some (.int n), some (.ref D), some (.ref ul), some (.ref fl), none, y7, y8, y9, y10, none, none, none, none, none] ∧ PAt p (B + 10 + 60 * i) H H' ∧ H' D = some (.lst (fs.map V.int)) ∧ H' fl = some (.lst []) ∧
        ∃ us ds, H' ul = some (.lst us) ∧ DaAll H' us ds ∧ ds.length = i ∧ ∀ k d, ds[k]? = some d → UnitOk fs k d)
      ⟨none, none, none, none, rfl, C3, hD3, hfl3, [], [], hul3, .nil, rfl, fun k d h => by cases h⟩ (fun i σ H' _ ⟨_, _, _, _, _, _, h4, _⟩ => .inl (.inl h4)) ?_ ?_
    · rintro i x σ H' H'' hi ⟨y7, y8, y9, y10, rfl, cI, hD', hfl', us, ds, hul, hus, hdl, hok⟩ ⟨T', x1, x2, rfl, nT, rfl, f1, f2⟩
      obtain rfl : x1 = .int (i : Nat) := (Option.some.inj f1).symm
      rw [List.length_map] at hi
      obtain ⟨z, hz⟩ : ∃ z, fs[i]? = some z := ⟨_, List.getElem?_eq_getElem hi⟩
      obtain rfl : x2 = .int z := by
        have f2' : (fs.map V.int)[i]? = some x2 := f2
        rw [List.getElem?_map, hz] at f2'
        exact (Option.some.inj f2').symm
      obtain ⟨z0, z3⟩ := hfs z (List.mem_of_getElem? hz)
      have hnl : noLAll ds = true := noLAll_of fun d hd => by
        obtain ⟨k, hk⟩ := List.getElem?_of_mem hd
        exact (hok k d hk).2.2.2
      have cT := (PAt.refl cI.pen).new nT (o := .tup [V.int (i : Nat), .int z])
      refine ⟨T', _, rfl, .inl (.inl upd_same), rfl, _, _, rfl, _, _, rfl, rfl, ?_⟩
      generalize upd H' T' (.tup [V.int (i : Nat), .int z]) = HT at cT ⊢
      refine parentP cT.pen (by omega) (by omega) rfl rfl fun H5 vp dp c5 ddp okp nlp => ?_
      have c5' := cT.trans c5
      -- body
      refine asgLc ?_
      refine ⟨_, rfl, p, 7, _, rfl, c5.pen, by omega, by decide, by decide, fun H6 z6 s6 p6 z60 z61 => ?_⟩
      have c6 := c5'.take s6 p6
      have c6h := (PAt.refl c5.pen).take s6 p6
      refine ⟨z6, rfl, by omega, by omega, ?_⟩
      refine lcP (c := 8) (n := z6.toNat) (fun H v => ∃ d, Da H v d ∧ noL d = true ∧ okIns false (limsI fs.length) fs d = true) (fun H H' v e ⟨d, g, nl, gg⟩ => ⟨d, g.exT e nl, nl, gg⟩) c6.pen (by omega) ?_ (fun k H7 hk c7 Q' q' => ?_) (fun D2 H7 ys c7 nD2 hD2 hlen hys => ?_)
      · exact fun _ => rfl
      · refine ⟨_, rfl, _, rfl, _, rfl, p, D, n, _, fs, rfl, c7.pen, by omega, n0, by omega, nDp, (c6.trans c7).lst hD' nDp, fl6, hfs, fun H8 v d c8 dd nl ok => ?_⟩
        exact q' v H8 (c8.mono (by omega)) ⟨d, dd.ex off_sub, nl, ok⟩
      · obtain ⟨bs, hb1, hb2⟩ := das_of hys
        have bnl : noLAll bs = true := noLAll_of fun d hd => (hb2 d hd).1
        have bl6 : bs.length ≤ 6 := by rw [← hb1.len, hlen]; omega
        have c67 := c6.trans c7
        have hul7 := c67.lst hul ulp
        have hD7 := c67.lst hD' nDp
        have hfl7 := c67.lst hfl' flp
        have hus7 := hus.exT (c67.exT cI.pen) hnl
        have e57 := (c6h.exT c5.pen).trans (c7.exT c6.pen)
        refine ⟨_, rfl, Or.inl ⟨rfl, us, .inl (.inl hul7)⟩, ?_⟩
        refine ⟨_, rfl, _, rfl, _, rfl, D2, ys, rfl, .inl ⟨.inl (.inl hD2), fun t nt => ?_⟩⟩
        refine ⟨sz_of (by show 3 ≤ 100000; decide), fun a na => ?_⟩
        have e7 : ExT H7 (upd (upd H7 t (.tup ys)) a (.tup [vp, .int z, .ref t])) := (ExT.of (same_new nt)).trans (.of (same_new na))
        have hula : (upd (upd H7 t (.tup ys)) a (.tup [vp, .int z, .ref t])) ul = some (.lst us) := same_new na _ _ (same_new nt _ _ hul7)
        have hDa : (upd (upd H7 t (.tup ys)) a (.tup [vp, .int z, .ref t])) D = some (.lst (fs.map V.int)) := same_new na _ _ (same_new nt _ _ hD7)
        have hfla : (upd (upd H7 t (.tup ys)) a (.tup [vp, .int z, .ref t])) fl = some (.lst []) := same_new na _ _ (same_new nt _ _ hfl7)
        have dA : Da (upd (upd H7 t (.tup ys)) a (.tup [vp, .int z, .ref t])) (.ref a) (.tuple [dp, .int z, .tuple bs]) :=
          .tup upd_same (.cons ((ddp.exT e57 nlp).exT e7 nlp) (.cons (.int z) (.cons (.tup (same_new na _ _ upd_same) (hb1.exT e7 bnl)) .nil)))
        have nlA : noL (.tuple [dp, .int z, .tuple bs]) = true := by
          show (noL dp && (true && (noLAll bs && true))) = true
          rw [nlp, bnl]
          rfl
        have usl : us.length = i := by rw [hus.len, hdl]
        refine ⟨ul, us, .ref a, rfl, rfl, hula, sz_lt (by omega), ?_⟩
        have e8 := ExT.lst (o := .lst (us ++ [V.ref a])) hula
        refine ⟨_, _, _, _, rfl, ((((cI.trans c67).new nt).new na).upd hp nulH).mono (by omega), by rw [upd_ne nulD.symm]; exact hDa, by rw [upd_ne flul]; exact hfla, us ++ [.ref a], ds ++ [.tuple [dp, .int z, .tuple bs]], upd_same, ?_, by rw [List.length_append, hdl]; rfl, at_snoc hok ?_⟩
        · exact ((hus7.exT e7 hnl).app (.cons dA .nil)).exT e8 (noLAll_app hnl (by rw [noLAll, nlA]; rfl))
        · rw [hdl]
          refine ⟨?_, ?_, hz, nlA⟩
          · show ((isNonD dp || isIn dp 0 ((i : Int) - 1)) && isIn (.int z) 0 3) = true
            rw [okp, isIn_of z0 z3]
            rfl
          · show (decide (bs.length ≤ 6) && bs.all (okIns false (limsI fs.length) fs)) = true
            rw [decide_eq_true bl6, Bool.true_and, List.all_eq_true]
            exact fun d hd => (hb2 d hd).2
    rintro σ H5 ⟨y7, y8, y9, y10, rfl, C5, hD5, hfl5, us, dus, hul, hus, hdl, hok⟩
    rw [List.length_map] at C5 hdl
    have usl : us.length = fs.length := by rw [hus.len, hdl]
    have hnl : noLAll dus = true := noLAll_of fun d hd => by
      obtain ⟨k, hk⟩ := List.getElem?_of_mem hd
      exact (hok k d hk).2.2.2
    have C5' := C5.mono (B' := B + 500) (by omega)
    -- count
    refine ⟨_, rfl, p, 4, _, rfl, C5'.pen, by omega, by decide, by decide, fun H6 nf' s6 p6 nf0 nf1 => ?_⟩
    have c6 := (PAt.refl C5'.pen).take s6 p6
    refine ⟨1, nf', rfl, rfl, ?_⟩
    have C6 := C5'.trans c6
    have hD6 := c6.lst hD5 nDp
    have hfl6 := c6.lst hfl5 flp
    have hul6 := c6.lst hul ulp
    have hus6 := hus.exT (c6.exT C5.pen) hnl
    refine ⟨_, rfl, 1 + nf', rfl, by omega, by omega, ?_⟩
    refine for_it (walk_range (lo := 0) (n := (1 + nf').toNat)) (fun i σ H' => ∃ (y10 y12 y13 y14 : Option V), σ = [some (.ref p), some (.int m), some (.int n), some (.ref D), some (.ref ul), some (.ref fl), none, y7, y8, y9, y10, some (.int (1 + nf')), y12, y13, y14, none] ∧ PAt p (B + 600 + 200 * i) H H' ∧
        H' D = some (.lst (fs.map V.int)) ∧ H' ul = some (.lst us) ∧ DaAll H' us dus ∧ ∃ gs ds, H' fl = some (.lst gs) ∧ DaAll H' gs ds ∧ ds.length = i ∧ ∀ k d, ds[k]? = some d → FunOk fs (1 + nf').toNat k d)
      ⟨_, none, none, none, rfl, C6.mono (by omega), hD6, hul6, hus6, [], [], hfl6, .nil, rfl, fun k d h => by cases h⟩ (fun _ _ _ _ _ => trivial) ?_ ?_
    · rintro i x σ H' H'' hi ⟨y10, y12, y13, y14, rfl, cI, hD', hul', hus', gs, ds, hfl', hgs, hdl2, hok2⟩ ⟨rfl, rfl⟩
      have hnl2 : noLAll ds = true := noLAll_of fun d hd => by
        obtain ⟨k, hk⟩ := List.getElem?_of_mem hd
        exact (hok2 k d hk).2.2
      refine ⟨_, rfl, p, 8, _, rfl, cI.pen, by omega, by decide, by decide, fun H7 sz s7 p7 sz0 sz1 => ?_⟩
      have c7 := (PAt.refl cI.pen).take s7 p7
      refine ⟨1, sz, rfl, rfl, ?_⟩
      refine ⟨_, rfl, (0 + (i : Int)), 1, rfl, rfl, _, rfl, _, _, rfl, rfl, .of_le (by omega) (by omega) (by omega) (by omega), fun cl ncl => ?_⟩
      have c8 := c7.new ncl (o := .lst (rgV (0 + (i : Int) + 1) (1 + nf')))
      have clp : cl ≠ p := c7.pen.ne ncl
      have hcl8 : (upd H7 cl (.lst (rgV (0 + (i : Int) + 1) (1 + nf')))) cl = some (.lst (rgV (0 + (i : Int) + 1) (1 + nf'))) := upd_same
      refine ⟨sz_of (by show 2 ≤ 100000; decide), fun tt ntt => ?_⟩
      have c9 := c8.new ntt (o := .tup [V.int (1 + sz), .ref cl])
      have hcl9 := same_new ntt (o := .tup [V.int (1 + sz), .ref cl]) _ _ hcl8
      refine ⟨tt, _, rfl, .inl (.inl upd_same), rfl, _, _, rfl, _, _, rfl, rfl, ?_⟩
      generalize upd (upd H7 cl (.lst (rgV (0 + (i : Int) + 1) (1 + nf')))) tt (.tup [V.int (1 + sz), .ref cl]) = H9 at c9 hcl9 ⊢
      obtain ⟨cs, ecs, hcs⟩ : ∃ cs : List Int, rgV (0 + (i : Int) + 1) (1 + nf') = cs.map V.int ∧ cs.length ≤ 10 ∧ ∀ c ∈ cs, (i : Int) + 1 ≤ c ∧ c ≤ ((1 + nf').toNat : Int) - 1 := by
        refine ⟨(List.range ((1 + nf') - (0 + (i : Int) + 1)).toNat).map fun k => (0 + (i : Int) + 1) + (k : Nat), by unfold rgV; rw [List.map_map]; rfl, by rw [List.length_map, List.length_range]; omega, fun c hc => ?_⟩
        obtain ⟨k, hk, rfl⟩ := List.mem_map.mp hc
        have := List.mem_range.mp hk
        omega
      rw [ecs] at hcl9
      -- body
      dsimp only
      refine asgLc ?_
      refine ⟨_, rfl, 1 + sz, rfl, by omega, by omega, ?_⟩
      refine lcPi (c := 12) (n := (1 + sz).toNat) (fun k H v => ∃ d, Da H v d ∧ noL d = true ∧ okIns true (limsF fs.length (1 + sz).toNat (i : Nat) ((1 + nf').toNat : Nat) (k : Nat)) fs d = true) (fun k H H' v e ⟨d, g, nl, gg⟩ => ⟨d, g.exT e nl, nl, gg⟩) c9.pen (by omega) ?_ (fun k H10 hk c10 Q' q' => ?_) (fun D2 H10 ys c10 nD2 hD2 hlen hys => ?_)
      · exact fun _ => rfl
      · have c910 := c9.trans c10
        refine ⟨_, rfl, _, rfl, _, rfl, _, rfl, _, rfl, _, rfl, 3, n, rfl, rfl, .inl ⟨by decide, by decide⟩, p, D, cl, 3 * n, (k : Nat), _, (1 + sz).toNat, fs, cs, (i : Nat), ((1 + nf').toNat : Nat), ?_, c10.pen, by omega, by omega, by omega, nDp, c910.lst hD' nDp, fl6, fl1, hfs, clp, c10.lst hcl9 clp, hcs.1, hcs.2, by omega, by omega, by omega, fun H11 v d c11 dd nl ok => ?_⟩
        · rw [show (((1 + sz).toNat : Nat) : Int) = 1 + sz by omega]
          rfl
        · exact q' v H11 (c11.mono (by omega)) ⟨d, dd.ex off_sub, nl, ok⟩
      · obtain ⟨bs, hb1, hb2⟩ := das_ofi hys
        have bnl : noLAll bs = true := noLAll_of fun d hd => by
          obtain ⟨k, hk⟩ := List.getElem?_of_mem hd
          exact (hb2 k d hk).1
        have bl : bs.length = (1 + sz).toNat := by rw [← hb1.len, hlen]
        have c910 := c9.trans c10
        have hul10 := c910.lst hul' ulp
        have hD10 := c910.lst hD' nDp
        have hfl10 := c910.lst hfl' flp
        have hus10 := hus'.exT (c910.exT cI.pen) hnl
        have hgs10 := hgs.exT (c910.exT cI.pen) hnl2
        refine ⟨_, rfl, Or.inl ⟨rfl, gs, .inl (.inl hfl10)⟩, ?_⟩
        refine ⟨_, rfl, _, rfl, D, _, rfl, .inl (.inl (.inl hD10)), p, _, _, rfl, c10.pen, by omega, by rw [List.length_map]; omega, by rw [List.length_map]; omega, fun H11 u s11 p11 u0 u1 => ?_⟩
        rw [List.length_map] at u1
        have c11 := (PAt.refl c10.pen).take s11 p11
        have hul11 := c11.lst hul10 ulp
        have hD11 := c11.lst hD10 nDp
        have hfl11 := c11.lst hfl10 flp
        have e11 := c11.exT c10.pen
        refine ⟨_, rfl, D2, ys, rfl, .inl ⟨.inl (.inl (c11.lst hD2 (c9.pen.ne nD2))), fun t nt => ?_⟩⟩
        refine ⟨sz_of (by show 2 ≤ 100000; decide), fun a na => ?_⟩
        have e7 : ExT H11 (upd (upd H11 t (.tup ys)) a (.tup [.int u, .ref t])) := (ExT.of (same_new nt)).trans (.of (same_new na))
        have hfla : (upd (upd H11 t (.tup ys)) a (.tup [.int u, .ref t])) fl = some (.lst gs) := same_new na _ _ (same_new nt _ _ hfl11)
        have hula : (upd (upd H11 t (.tup ys)) a (.tup [.int u, .ref t])) ul = some (.lst us) := same_new na _ _ (same_new nt _ _ hul11)
        have hDa : (upd (upd H11 t (.tup ys)) a (.tup [.int u, .ref t])) D = some (.lst (fs.map V.int)) := same_new na _ _ (same_new nt _ _ hD11)
        have dA : Da (upd (upd H11 t (.tup ys)) a (.tup [.int u, .ref t])) (.ref a) (.tuple [.int u, .tuple bs]) := .tup upd_same (.cons (.int u) (.cons (.tup (same_new na _ _ upd_same) ((hb1.exT e11 bnl).exT e7 bnl)) .nil))
        have nlA : noL (.tuple [.int u, .tuple bs]) = true := by
          show (true && (noLAll bs && true)) = true
          rw [bnl]
          rfl
        have gsl : gs.length = i := by rw [hgs.len, hdl2]
        refine ⟨fl, gs, .ref a, rfl, rfl, hfla, sz_lt (by omega), ?_⟩
        have e8 := ExT.lst (o := .lst (gs ++ [V.ref a])) hfla
        refine ⟨_, _, _, _, rfl, (((((cI.trans c910).trans c11).new nt).new na).upd hp nflH).mono (by omega), by rw [upd_ne nflD.symm]; exact hDa, by rw [upd_ne flul.symm]; exact hula, ((hus10.exT e11 hnl).exT e7 hnl).exT e8 hnl, gs ++ [.ref a], ds ++ [.tuple [.int u, .tuple bs]], upd_same, ?_, by rw [List.length_append, hdl2]; rfl, at_snoc hok2 ?_⟩
        · exact (((hgs10.exT e11 hnl2).exT e7 hnl2).app (.cons dA .nil)).exT e8 (noLAll_app hnl2 (by rw [noLAll, nlA]; rfl))
        · rw [hdl2]
          refine ⟨isIn_of u0 (by omega), ?_, nlA⟩
          show (decide (1 ≤ bs.length) && decide (bs.length ≤ 8) && (List.range bs.length).all fun k => okIns true (limsF fs.length bs.length (i : Nat) ((1 + nf').toNat : Nat) (k : Nat)) fs (bs.getD k .none)) = true
          rw [decide_eq_true (by omega), decide_eq_true (by omega), Bool.true_and, Bool.true_and, List.all_eq_true]
          intro k hk
          have hk := List.mem_range.mp hk
          rw [getD_at (List.getElem?_eq_getElem hk), bl]
          exact (hb2 k _ (List.getElem?_eq_getElem hk)).2
    rintro σ H8 ⟨y10, y12, y13, y14, rfl, C8, hD8, hul8, hus8, gs, dfs, hgl, hgs, hdl2, hok2⟩
    rw [show (1 + nf').toNat = dfs.length from hdl2.symm] at hok2
    have hnl2 : noLAll dfs = true := noLAll_of fun d hd => by
      obtain ⟨k, hk⟩ := List.getElem?_of_mem hd
      exact (hok2 k d hk).2.2
    refine ⟨_, rfl, ul, us, rfl, .inl ⟨.inl (.inl hul8), fun t1 nt1 => ?_⟩⟩
    refine ⟨_, rfl, fl, gs, rfl, .inl ⟨.inl (.inl (same_new nt1 _ _ hgl)), fun t2 nt2 => ?_⟩⟩
    refine ⟨sz_of (by show 2 ≤ 100000; decide), fun a na => ?_⟩
    have e1 := ExT.of (same_new nt1 (o := .tup us))
    have e2 := ExT.of (same_new nt2 (o := .tup gs))
    have e3 := ExT.of (same_new na (o := .tup [V.ref t1, .ref t2]))
    refine q _ _ (.tuple [.tuple dus, .tuple dfs]) ((((C8.new nt1).new nt2).new na).mono (by omega)) (.tup upd_same (.cons (.tup (e3 _ _ (e2 _ _ upd_same)) (((hus8.exT e1 hnl).exT e2 hnl).exT e3 hnl)) (.cons (.tup (e3 _ _ upd_same) (((hgs.exT e1 hnl2).exT e2 hnl2).exT e3 hnl2)) .nil))) ?_ ?_
    · show (noLAll dus && (noLAll dfs && true)) = true
      rw [hnl, hnl2]
      rfl
    · have efs : dus.map fieldsD = fs := by
        refine List.ext_getElem? fun k => ?_
        rw [List.getElem?_map]
        cases e : dus[k]? with
        | none =>
          have := List.getElem?_eq_none_iff.mp e
          rw [List.getElem?_eq_none (by omega)]
          rfl
        | some d => exact (hok k d e).2.2.1.symm
      show (okUnits (.tuple dus) && okFuns (dus.length : Nat) (.tuple dfs) && dus.all (fun u => okInit (dus.map fieldsD) (bodyD u)) && (List.range dfs.length).all fun i => okCode (i : Nat) (dfs.length : Nat) (dus.map fieldsD) (bodyD (dfs.getD i .none))) = true
      rw [efs, hdl]
      have g1 : okUnits (.tuple dus) = true := by
        show (decide (1 ≤ dus.length) && decide (dus.length ≤ 6) && (List.range dus.length).all fun i => okUnit (i : Nat) (dus.getD i .none)) = true
        rw [decide_eq_true (by omega), decide_eq_true (by omega), Bool.true_and, Bool.true_and, List.all_eq_true]
        intro k hk
        have hk := List.mem_range.mp hk
        rw [getD_at (List.getElem?_eq_getElem hk)]
        exact (hok k _ (List.getElem?_eq_getElem hk)).1
      have g2 : okFuns (fs.length : Nat) (.tuple dfs) = true := by
        show (decide (1 ≤ dfs.length) && decide (dfs.length ≤ 4) && dfs.all (okFun (fs.length : Nat))) = true
        rw [decide_eq_true (by omega), decide_eq_true (by omega), Bool.true_and, Bool.true_and, List.all_eq_true]
        intro d hd
        obtain ⟨k, hk⟩ := List.getElem?_of_mem hd
        exact (hok2 k d hk).1
      rw [g1, g2, Bool.true_and, Bool.true_and, Bool.and_eq_true, List.all_eq_true, List.all_eq_true]
      refine ⟨fun d hd => ?_, fun k hk => ?_⟩
      · obtain ⟨k, hk⟩ := List.getElem?_of_mem hd
        exact (hok k d hk).2.1
      · have hk := List.mem_range.mp hk
        rw [getD_at (List.getElem?_eq_getElem hk)]
        exact (hok2 k _ (List.getElem?_eq_getElem hk)).2.1
end
end FW
set_option Elab.async false
set_option linter.all false
set_option maxRecDepth 100000
set_option maxHeartbeats 4000000
namespace FW
open PySem PySem.Spec PyProof.Rows L2
open Evl (pss_cut tCut)
open Evl (Ex Ev EvT EvA EvL EvU RC RV fresh_back ev_var ev_c ea_nil ea_cons ev_cb ev_op ev_is ev_andV ev_orV ev_notV et_test et_B et_and et_or et_not et_is s_ret s_when q_when q_asg q_asgL q_asgU rv_I0 rv_eq rv_ne rv_ixT rv_ixL)
structure TBent (K : PySem.W.Frag) (mg : Str → Option Value) : Prop extends TDraw K mg where
  b_isinstance : mg "isinstance" = none
  d_odd : Df K mg "_law_odd" s__law_odd
  d_bent : Df K mg "_law_bent" s__law_bent
  d_one_bent : Df K mg "_law_one_bent" s__law_one_bent
  d_inputs : Df K mg "_law_draw_inputs" s__law_draw_inputs
def oddA : List PyData := [.none, .bool true, .bool false, .int 0, .int 1, .int (-1), .int 2, .int 3, .int 6, .int 7, .int 65536, .int (10 ^ (20 : Int).toNat), .str "", .str "fail", .str "branch", .str "unit", .tuple [], .list [], .dict [], .tuple [.int 0]]
def oddB : List PyData := [.tuple [.str "fail"], .tuple [.str "number", .int 0, .int 0], .tuple [.str "branch", .int 0], .tuple [.str "wake", .int 0, .int 1], .tuple [.none, .int 0, .tuple []], .tuple [.int 0, .tuple []], .list [.int 0], .tuple [.str "call", .int 0]]
def oddD : List PyData := (oddA ++ oddB) ++ [.tuple [.int 0, .int 0]]
theorem odd_sh {d : PyData} (h : d ∈ oddD) : Sh 2 20 d := by
  have z : ∀ d ∈ oddD, (d.showable && d.leavesShort 24 && decide (d.depth ≤ 2) && decide (d.bulk ≤ 20)) = true := by decide +kernel
  have := z d h
  rw [Bool.and_eq_true, Bool.and_eq_true, Bool.and_eq_true, decide_eq_true_eq, decide_eq_true_eq] at this
  exact ⟨this.1.1.1, this.1.1.2, this.1.2, this.2⟩
mutual
/-- tuples are narrow -/
def nar : PyData → Bool
  | .tuple ds => decide (ds.length ≤ 100) && narAll ds
  | .list _ | .dict _ | .none | .bool _ | .int _ | .str _ => true
def narAll : List PyData → Bool
  | [] => true
  | d :: ds => nar d && narAll ds
end
theorem narA {ds : List PyData} : narAll ds = true ↔ ∀ d ∈ ds, nar d = true := by
  induction ds with
  | nil => exact ⟨fun _ d h => (by cases h), fun _ => rfl⟩
  | cons x r ih =>
    show (nar x && narAll r) = true ↔ _
    rw [Bool.and_eq_true, ih]
    exact ⟨fun h d hd => (List.mem_cons.mp hd).elim (fun e => e ▸ h.1) (h.2 d), fun h => ⟨h x List.mem_cons_self, fun d hd => h d (List.mem_cons_of_mem _ hd)⟩⟩
theorem nar_tup {ds : List PyData} : nar (.tuple ds) = true ↔ ds.length ≤ 100 ∧ ∀ d ∈ ds, nar d = true := by
  show (decide (ds.length ≤ 100) && narAll ds) = true ↔ _
  rw [Bool.and_eq_true, decide_eq_true_eq, narA]
theorem DaAll.mem {H : Hp} {vs : List V} {ds : List PyData} {x : V} (h : DaAll H vs ds) (hx : x ∈ vs) : ∃ d ∈ ds, Da H x d := by
  obtain ⟨i, hi⟩ := List.getElem?_of_mem hx
  obtain ⟨d, hd, dd⟩ := h.at hi
  exact ⟨d, List.mem_of_getElem? hd, dd⟩
theorem AllS.pat {H H' : Hp} {S : List Addr} {p : Addr} {B : Nat} (h : AllS H S) (c : PAt p B H H') : AllS H' S := fun s hs => by
  by_cases e : s = p
  · subst e
    exact c.pen.some
  · obtain ⟨o, ho⟩ := h s hs
    exact ⟨o, off_sub _ _ (c.ex _ _ (off_of ho e))⟩
theorem da_tupS {H : Hp} {S : List Addr} {a : Addr} {vs : List V} {ds : List PyData} (h : AllS H S) (n : H a = none) (d : DaAll (offL H S) vs ds) : Da (offL (upd H a (.tup vs)) S) (.ref a) (.tuple ds) :=
  .tup (offL_of upd_same (ne_some h n)) (d.ex (offL_mono (same_new n)))
section
variable {P : Program} {w : World} {K : PySem.W.Frag} {mg : Str → Option Value} {base : Heap}
def spOdd : Sp := fun vs H Q _ => ∃ (p : Addr) (S : List Addr) (B : Nat), vs = [.ref p] ∧ p ∈ S ∧ AllS H S ∧ Pen H p B ∧ B ≤ 900000000 ∧ ∀ H' v d, PAt p (B + 1) H H' → Da (offL H' S) v d → d ∈ oddD → Q v H'
theorem ok_odd (T : TBent K mg) : Ok P w K mg base CX0 4 "_law_odd" ["pen"] spOdd := by
  have G__law_one_of : Ok P w K mg base CX0 3 "_law_one_of" ["pen", "some"] spPick := ok_pick T.toTDraw
  refine T.d_odd.ok sc__law_odd bi__law_odd (fun vs H Q E h => ?_) (fun cdv A outer s H f vs Q E hr h => ?_)
  · obtain ⟨p, S, B, rfl, _⟩ := h
    rfl
  · obtain ⟨p, S, B, rfl, hpS, hS, hp, hB, q⟩ := h
    refine ⟨_, (pss_cons (ps_set (i := 1) sc__law_odd.nd rfl (Or.inl rfl) (pe_lst (pa_cons pe_non (pa_cons pe_bl (pa_cons pe_bl (pa_cons pe_int (pa_cons pe_int (pa_cons (pe_un un_neg pe_int) (pa_cons pe_int (pa_cons pe_int (pa_cons pe_int (pa_cons pe_int (pa_cons pe_int (pa_cons (pe_op op_pow pe_int pe_int) (pa_cons pe_str (pa_cons pe_str (pa_cons pe_str (pa_cons pe_str (pa_cons (pe_tup pa_nil) (pa_cons (pe_lst pa_nil) (pa_cons pe_dnewK (pa_cons (pe_tup (pa_cons pe_int pa_nil)) pa_nil))))))))))))))))))))))
    (pss_cons (ps_set (i := 1) sc__law_odd.nd rfl (Or.inl rfl) (pe_op op_cat (pv 1) (pe_lst (pa_cons (pe_tup (pa_cons pe_str pa_nil)) (pa_cons (pe_tup (pa_cons pe_str (pa_cons pe_int (pa_cons pe_int pa_nil)))) (pa_cons (pe_tup (pa_cons pe_str (pa_cons pe_int pa_nil))) (pa_cons (pe_tup (pa_cons pe_str (pa_cons pe_int (pa_cons pe_int pa_nil)))) (pa_cons (pe_tup (pa_cons pe_non (pa_cons pe_int (pa_cons (pe_tup pa_nil) pa_nil)))) (pa_cons (pe_tup (pa_cons pe_int (pa_cons (pe_tup pa_nil) pa_nil))) (pa_cons (pe_lst (pa_cons pe_int pa_nil)) (pa_cons (pe_tup (pa_cons pe_str (pa_cons pe_int pa_nil))) pa_nil)))))))))))
    (pss_cons (ps_expr (pe_bm PySem.F.plainAttrs_list PySem.F.slot_list_append PySem.F.type_list_append mt_append (pv 1) (pa_cons (pe_tup (pa_cons pe_int (pa_cons pe_int pa_nil))) pa_nil)))
    (pss_one (ps_ret (pe_callO G__law_one_of (hr.mono (by decide)) (pa_cons (pv 0) (pa_cons (pv 1) pa_nil)))))))), ?_⟩
    have hpo := hS
    refine q_asgDl (S := S) (ds := oddA) (dl_lst (ed_cons ed_n (ed_cons ed_b (ed_cons ed_b (ed_cons ed_i (ed_cons ed_i (ed_cons ed_neg (ed_cons ed_i (ed_cons ed_i (ed_cons ed_i (ed_cons ed_i (ed_cons ed_i (ed_cons (ed_int (ev_op ev_c ev_c (Evl.rv_I (by unfold CPow; decide))))
      (ed_cons ed_s (ed_cons ed_s (ed_cons ed_s (ed_cons ed_s (ed_cons (ed_tup hpo ed_nil (by decide)) (ed_cons (ed_lst hpo ed_nil (by decide)) (ed_cons (ed_dic hpo) (ed_cons (ed_tup hpo (ed_cons ed_i ed_nil) (by decide)) ed_nil)))))))))))))))))))) (by decide)) fun l1 xs1 H2 e2 d2 nl2 => ?_
    have hpo2 := some_ex hpo (e2.trans (Ex.new nl2 (o := .lst xs1)))
    refine q_asgDl (S := S) (ds := oddA ++ oddB) (dl_cat (dw_var rfl upd_same (d2.ex (offL_mono (same_new nl2)))) (dw_new hpo2 (dl_lst (ed_cons (ed_tup hpo2 (ed_cons ed_s ed_nil) (by decide)) (ed_cons (ed_tup hpo2 (ed_cons ed_s (ed_cons ed_i (ed_cons ed_i ed_nil))) (by decide))
      (ed_cons (ed_tup hpo2 (ed_cons ed_s (ed_cons ed_i ed_nil)) (by decide)) (ed_cons (ed_tup hpo2 (ed_cons ed_s (ed_cons ed_i (ed_cons ed_i ed_nil))) (by decide)) (ed_cons (ed_tup hpo2 (ed_cons ed_n (ed_cons ed_i (ed_cons (ed_tup hpo2 ed_nil (by decide)) ed_nil))) (by decide))
      (ed_cons (ed_tup hpo2 (ed_cons ed_i (ed_cons (ed_tup hpo2 ed_nil (by decide)) ed_nil)) (by decide)) (ed_cons (ed_lst hpo2 (ed_cons ed_i ed_nil) (by decide)) (ed_cons (ed_tup hpo2 (ed_cons ed_s (ed_cons ed_i ed_nil)) (by decide)) ed_nil)))))))) (by decide))) (by decide)) fun l3 xs3 H4 e4 d4 nl4 => ?_
    have ex4 := (e2.trans (Ex.new nl2 (o := .lst xs1))).trans e4
    have l3S : l3 ∉ S := ne_some (some_ex hpo ex4) nl4
    have l3p : l3 ≠ p := fun z => l3S (z ▸ hpS)
    have len3 := d4.len
    have l28 : (oddA ++ oddB).length = 28 := by decide
    refine ⟨_, rfl, Or.inl ⟨rfl, _, .inl (.inl upd_same)⟩, ?_⟩
    refine ⟨sz_of (by show 2 ≤ 100000; decide), fun a na => ?_⟩
    have hl3 : (upd (upd H4 l3 (.lst xs3)) a (.tup [.int 0, .int 0])) l3 = some (.lst xs3) := same_new na _ _ upd_same
    refine ⟨l3, xs3, .ref a, rfl, rfl, hl3, sz_lt (by omega), ?_⟩
    have exF : Ex H4 (upd (upd (upd H4 l3 (.lst xs3)) a (.tup [.int 0, .int 0])) l3 (.lst (xs3 ++ [.ref a]))) := Evl.Ex.mut ((Ex.new nl4).trans (Ex.new na)) nl4
    have al3 : a ≠ l3 := fun z => by
      rw [z, upd_same] at na
      cases na
    have ap : a ∉ S := ne_some (some_ex hpo (ex4.trans (Ex.new nl4 (o := .lst xs3)))) na
    have hF : (upd (upd (upd H4 l3 (.lst xs3)) a (.tup [.int 0, .int 0])) l3 (.lst (xs3 ++ [.ref a]))) l3 = some (.lst (xs3 ++ [.ref a])) := upd_same
    have dF : DaAll (offL (upd (upd (upd H4 l3 (.lst xs3)) a (.tup [.int 0, .int 0])) l3 (.lst (xs3 ++ [.ref a]))) S) (xs3 ++ [.ref a]) oddD :=
      (d4.ex (offL_mono exF)).app (.cons (.tup (offL_of (by rw [upd_ne al3]; exact upd_same) ap) (.cons (.int 0) (.cons (.int 0) .nil))) .nil)
    generalize upd (upd (upd H4 l3 (.lst xs3)) a (.tup [.int 0, .int 0])) l3 (.lst (xs3 ++ [.ref a])) = HF at exF hF dF ⊢
    have cF := (PAt.refl hp).more (ex4.trans exF)
    refine ⟨_, rfl, _, rfl, p, l3, _, _, rfl, cF.pen, by omega, off_of hF l3p, by rw [List.length_append]; exact Nat.succ_pos _, by rw [List.length_append, List.length_singleton]; omega, fun H' x s' p' hx => ?_⟩
    obtain ⟨d, hd, dd⟩ := dF.mem hx
    exact q H' x d (cF.take s' p') (dd.ex (offL_off hpS s')) hd
def spBent (n : Nat) : Sp := fun vs H Q _ => ∃ (p : Addr) (S : List Addr) (B : Nat) (v : V) (d : PyData), vs = [.ref p, v] ∧ p ∈ S ∧ AllS H S ∧ Pen H p B ∧ B + 8 * n ≤ 800000000 ∧ Da (offL H S) v d ∧ Sh n 20000 d ∧ nar d = true ∧ ∀ H' v' d', PAt p (B + 4 * (n + 1)) H H' → Da (offL H' S) v' d' → Sh (n + 2) (2 * d.bulk + 100) d' → Q v' H'
def spBentI (n : Nat) : Sp := fun vs H Q E => ∃ m, n = m + 1 ∧ spBent m vs H Q E
theorem not_tup {d : PyData} (h : isTy d "tuple" = true) : ∃ ds, d = .tuple ds := by
  rw [ty_tuple] at h
  cases d with
  | tuple ds => exact ⟨ds, rfl⟩
  | _ => cases h
theorem bent_step (T : TBent K mg) (n : Nat) (hn : n ≤ 100) (G__law_bent : Ok P w K mg base CX0 (5 + n) "_law_bent" ["pen", "value"] (spBentI n)) : Ok P w K mg base CX0 (6 + n) "_law_bent" ["pen", "value"] (spBent n) := by
  have G__law_take : Ok P w K mg base CX0 2 "_law_take" ["pen", "amount"] spTake := ok_take T.toTPen
  have G__law_odd : Ok P w K mg base CX0 4 "_law_odd" ["pen"] spOdd := ok_odd T
  rw [show 6 + n = (5 + n) + 1 by omega]
  refine T.d_bent.ok sc__law_bent bi__law_bent (fun vs H Q E h => ?_) (fun cdv A outer s H f vs Q E hr h => ?_)
  · obtain ⟨p, S, B, v, d, rfl, _⟩ := h
    rfl
  · obtain ⟨p, S, B, v, d, rfl, hpS, hS, hp, hB, hd, sd, hnar, q⟩ := h
    refine ⟨_, (pss_cons (ps_if (PW.pt (pw_or (pt_not (pt_val (pe_callB call_isi (by rfl) T.b_isinstance (by decide +kernel) (pa_cons (pv 1) (pa_cons (pe_bltn (by rfl) T.b_tuple (by decide +kernel) (v := .ty "tuple") rfl) pa_nil))))) (pw_or (pt_cmpR (op_eqE (hu1 hr)) (pv 1) (pe_tup pa_nil) (nomark _)) (pw_or1 (pt_cmpR op_eq (pe_callO G__law_take (hr.mono (by omega)) (pa_cons (pv 0) (pa_cons pe_int pa_nil))) pe_int (nomark _)))))) (pss_one (ps_ret (pe_callO G__law_odd (hr.mono (by omega)) (pa_cons (pv 0) pa_nil)))) pss_nil)
    (pss_cons (ps_par (i := 2) (j := 3) (by rfl) sc__law_bent.nd rfl rfl (by decide) rfl rfl (pa_cons (pe_callO G__law_take (hr.mono (by omega)) (pa_cons (pv 0) (pa_cons (pe_callB call_len_seq (by rfl) T.b_len (by decide +kernel) (pa_cons (pv 1) pa_nil)) pa_nil))) (pa_cons (pe_callO G__law_take (hr.mono (by omega)) (pa_cons (pv 0) (pa_cons pe_int pa_nil))) pa_nil)) (by rfl))
    (pss_cons (ps_if (pt_cmpR op_lt (pv 3) pe_int (nomark _)) (pss_one (ps_ret (pe_op op_catA (pe_op op_catA (pe_slice sl_tupA (pv 1) po_none (po_some (pv 2))) (pe_tup (pa_cons (pe_callO G__law_bent (hr.mono (by omega)) (pa_cons (pv 0) (pa_cons (pe_ix ix_tup (pv 1) (pv 2) (fun _ _ => rfl)) pa_nil))) pa_nil))) (pe_slice sl_tupA (pv 1) (po_some (pe_op op_add (pv 2) pe_int)) po_none)))) pss_nil)
    (pss_cons (ps_set (i := 4) sc__law_bent.nd rfl (Or.inl rfl) (pe_lst (pa_cons (pe_op op_catA (pe_slice sl_tupA (pv 1) po_none (po_some (pv 2))) (pe_slice sl_tupA (pv 1) (po_some (pe_op op_add (pv 2) pe_int)) po_none)) (pa_cons (pe_op op_catA (pe_op op_catA (pe_slice sl_tupA (pv 1) po_none (po_some (pv 2))) (pe_tup (pa_cons (pe_ix ix_tup (pv 1) (pv 2) (fun _ _ => rfl)) pa_nil))) (pe_slice sl_tupA (pv 1) (po_some (pv 2)) po_none)) (pa_cons (pe_callTy call_list_of (by rfl) T.b_list (by decide +kernel) (pa_cons (pv 1) pa_nil)) (pa_cons (pe_backT (pv 1)) (pa_cons (pe_op op_repT (pv 1) pe_int) pa_nil)))))))
    (pss_one (ps_ret (pe_ix ix_list (pv 4) (pe_op op_sub (pv 3) pe_int) (fun _ _ => rfl)))))))), ?_⟩
    have odd : ∀ H2, PAt p (B + 1) H H2 → ∀ (D : Ends) (σ : L2.St), D.rt = Q → σ[0]? = some (some (.ref p)) → tRet (tCall spOdd [] E0 (tCons (tVar 0) tNil)) D σ H2 := by
      intro H2 c2 D σ hD hσ
      refine ⟨_, hσ, p, S, _, rfl, hpS, hS.pat c2, c2.pen, by omega, fun H3 v' d' c3 dd hm => ?_⟩
      rw [hD]
      exact q H3 v' d' ((c2.trans c3).mono (by omega)) dd ((odd_sh hm).mono (by omega) (by omega))
    refine ⟨_, rfl, v, .ty "tuple", _, .type "tuple", _, rfl, .ty "tuple", (hd.ex offL_sub).ty, kit_d d (.inr (.inr (.inr (.inl rfl)))), _, rfl, ?_⟩
    cases ht : isTy d "tuple" with
    | false => exact odd H ((PAt.refl hp).mono (by omega)) _ _ rfl rfl
    | true =>
      obtain ⟨ds, rfl⟩ := not_tup ht
      obtain ⟨a, xs, rfl, ha, hds, nap⟩ := Da.tupO hd
      have lx := hds.len
      obtain ⟨l100, hnr⟩ := nar_tup.mp hnar
      refine ⟨_, rfl, sz_of (by show 0 ≤ 100000; decide), fun t0 nt0 => ?_⟩
      have c1 := (PAt.refl hp).new nt0 (o := .tup [])
      refine ⟨a, t0, xs, rfl, rfl, st_h (same_new nt0 _ _ ha), st_h upd_same, _, rfl, ite2 (fun _ => odd _ (c1.mono (by omega)) _ _ rfl rfl) (fun hne => ?_)⟩
      have hne : xs.length ≠ 0 := fun z => hne (decide_eq_true z)
      have hpos : 0 < ds.length := by omega
      refine ⟨_, rfl, p, 7, _, rfl, c1.pen, by omega, by decide, by decide, fun H2 r2 s2 p2 r20 r21 => ?_⟩
      have c2 := c1.take s2 p2
      refine ⟨rfl, _, rfl, ite2 (fun _ => odd _ (c2.mono (by omega)) _ _ rfl rfl) (fun _ => ?_)⟩
      have hd2 := hd.ex (offL_off hpS c2.ex)
      obtain ⟨a', xs', ea, ha2, hds2, _⟩ := Da.tupO hd2
      cases ea
      have lx2 := hds2.len
      -- k, way
      refine ⟨_, rfl, _, rfl, a, xs', rfl, .inr (st_h ha2), p, _, _, rfl, c2.pen, by omega, by omega, by omega, fun H3 k s3 p3 k0 k1 => ?_⟩
      have c3 := c2.take s3 p3
      refine ⟨_, rfl, p, 13, _, rfl, c3.pen, by omega, by decide, by decide, fun H4 way s4 p4 w0 w1 => ?_⟩
      have c4 := c3.take s4 p4
      refine ⟨_, _, rfl, ?_⟩
      show tSeq _ _ _ _ _
      have hd4 := hd.ex (offL_off hpS c4.ex)
      have hp4 := (hS.pat c4)
      obtain ⟨kn, rfl⟩ := Int.eq_ofNat_of_zero_le k0
      have hkn : kn < ds.length := by omega
      obtain ⟨dk, hdk⟩ : ∃ dk, ds[kn]? = some dk := ⟨_, List.getElem?_eq_getElem hkn⟩
      have bat := bulkAll_at hdk
      have sds : ∃ m, n = m + 1 ∧ Shs m 20000 ds := by
        have := sd.dp
        cases n with
        | zero => exact absurd this (by show ¬ (PyData.depthAll ds + 1 ≤ 0); omega)
        | succ m => exact ⟨m, rfl, sd.tupI⟩
      obtain ⟨m, rfl, sds⟩ := sds
      have sdk := sds.mem (List.mem_of_getElem? hdk)
      refine ⟨_, rfl, way, 8, rfl, rfl, _, rfl, ite2 (fun _ => ?_) (fun _ => ?_)⟩
      · -- a part bent
        refine ed_take (K := K) (S := S) (i := kn) hp4 (ed_var rfl hd4) (ev_var rfl) H4 (Ex.refl _) _ fun v1 H5 e5 dv1 => ?_
        have c5 := c4.more e5
        have hd5 := hd4.ex (offL_mono e5)
        obtain ⟨_, xs5, ea, ha5, hds5, _⟩ := Da.tupO hd5
        cases ea
        obtain ⟨vk, hvk, dvk⟩ := hds5.of hdk
        refine ⟨_, rfl, _, rfl, _, rfl, a, xs5, (kn : Int), vk, rfl, rfl, st_h ha5, atI_nat hvk, m, rfl, p, S, _, vk, dk, rfl, hpS, hS.pat c5, c5.pen, by omega, dvk, sdk, hnr _ (List.mem_of_getElem? hdk), fun H6 v6 d6 c6 dd6 sh6 => ?_⟩
        refine ⟨sz_of (by show 1 ≤ 100000; decide), fun t7 nt7 => ?_⟩
        have C6 := c5.trans c6
        have C7 := C6.new nt7 (o := .tup [v6])
        have dt7 : Da (offL (upd H6 t7 (.tup [v6])) S) (.ref t7) (.tuple [d6]) := da_tupS  (hS.pat C6) nt7 (.cons dd6 .nil)
        have dv1' : Da (offL (upd H6 t7 (.tup [v6])) S) v1 (.tuple (ds.take kn)) := (dv1.ex (offL_off hpS c6.ex)).ex (offL_mono (same_new nt7))
        refine cat_da (hS.pat C7) dv1' dt7 (by rw [List.length_take, List.length_singleton]; omega) fun v8 H8 e8 dv8 => ?_
        have C8 := C7.more e8
        refine ed_drop (K := K) (S := S) (i := kn + 1) (σ := [some (.ref p), some (.ref a), some (.int (kn : Int)), some (.int way), none]) (hS.pat C8) (ed_var rfl (hd.ex (offL_off hpS C8.ex))) (fun H1 e Q' q' => ⟨_, rfl, (kn : Int), 1, rfl, rfl, q' H1 (Ex.refl _)⟩) H8 (Ex.refl _) _ fun v9 H9 e9 dv9 => ?_
        have C9 := C8.more e9
        refine cat_da (hS.pat C9) (dv8.ex (offL_mono e9)) dv9 (by rw [List.length_append, List.length_take, List.length_drop, List.length_singleton]; omega) fun v10 H10 e10 dv10 => ?_
        refine q H10 v10 _ ((C9.more e10).mono (by omega)) dv10 ?_
        have A := (sds.sub (es := ds.take kn) fun x hx => List.mem_of_mem_take hx).mono (k' := m + 2) (by omega) (Nat.le_refl _)
        have D := (sds.sub (es := ds.drop (kn + 1)) fun x hx => List.mem_of_mem_drop hx).mono (k' := m + 2) (by omega) (Nat.le_refl _)
        refine ((A.app sh6.at).app D).tup.mono (Nat.le_refl _) ?_
        show _ ≤ 2 * PyData.bulkAll ds + 100
        omega
      · -- one of five
        refine q_asgDl (S := S) (dl_lst (ed_cons (ed_cat (K := K) hp4 (ed_take (i := kn) hp4 (ed_var rfl hd4) (ev_var rfl)) (ed_drop (i := kn + 1) hp4 (ed_var rfl hd4) (fun H1 e Q' q' => ⟨_, rfl, (kn : Int), 1, rfl, rfl, q' H1 (Ex.refl _)⟩)) (by rw [List.length_take, List.length_drop]; omega))
          (ed_cons (ed_cat (K := K) hp4 (ed_cat (K := K) hp4 (ed_take (i := kn) hp4 (ed_var rfl hd4) (ev_var rfl)) (ed_tup hp4 (ed_cons (ed_ix (K := K) (ed_var rfl hd4) (fun H1 e => ev_var rfl) rfl hdk) ed_nil) (by show 1 ≤ 100000; decide)) (by rw [List.length_take, List.length_singleton]; omega))
              (ed_drop (i := kn) hp4 (ed_var rfl hd4) (ev_var rfl)) (by rw [List.length_append, List.length_take, List.length_drop, List.length_singleton]; omega))
          (ed_cons (ed_listT (K := K) hp4 (ed_var rfl hd4))
          (ed_cons (ed_back (K := K) hp4 (ed_var rfl hd4))
          (ed_cons (ed_rep (K := K) (n := 2) hp4 (ed_var rfl hd4) (fun z => by rw [z] at hpos; cases hpos) (by decide) (by decide) (by omega)) ed_nil))))) (by show 5 ≤ 100000; decide)) fun l5 xs5 H5 e5 d5 nl5 => ?_
        have c5 := (c4.more e5).new nl5 (o := .lst xs5)
        have hl5 : (upd H5 l5 (.lst xs5)) l5 = some (.lst xs5) := upd_same
        have d5' := d5.ex (offL_mono (same_new nl5 (o := .lst xs5)))
        generalize upd H5 l5 (.lst xs5) = H6 at c5 hl5 d5' ⊢
        have w5 : way - 8 = 0 ∨ way - 8 = 1 ∨ way - 8 = 2 ∨ way - 8 = 3 ∨ way - 8 = 4 := by
          have : ¬ way < 8 := by
            rename_i hw
            exact fun z => hw (decide_eq_true z)
          omega
        have go : ∀ (j : Nat) (dj : PyData), way - 8 = (j : Int) → ([PyData.tuple (ds.take kn ++ ds.drop (kn + 1)), .tuple ((ds.take kn ++ [dk]) ++ ds.drop kn), .list ds, .tuple ds.reverse, .tuple (List.replicate 2 ds).flatten] : List PyData)[j]? = some dj → Sh (m + 1 + 2) (2 * PyData.bulkAll ds + 100) dj →
            tRet (tOp (rIxL K) (tVar 4) (tOp (rI0 fun i j => V.int (i - j)) (tVar 3) (tC (.int 8)))) { nx := fun _ H' => Q .non H', rt := Q } [some (.ref p), some (.ref a), some (.int (kn : Int)), some (.int way), some (.ref l5)] H6 := by
          intro j dj hj hdj shj
          obtain ⟨vj, hvj, dvj⟩ := d5'.of hdj
          refine ⟨_, rfl, _, rfl, way, 8, rfl, rfl, l5, xs5, way - 8, vj, rfl, rfl, .inl (.inl hl5), by rw [hj]; exact atI_nat hvj, ?_⟩
          exact q H6 vj dj (c5.mono (by omega)) dvj shj
        have S := (sds.sub (es := ds) fun x h => h).mono (k' := m + 2) (by omega) (Nat.le_refl _)
        have A := (sds.sub (es := ds.take kn) fun x hx => List.mem_of_mem_take hx).mono (k' := m + 2) (by omega) (Nat.le_refl _)
        have D1 := (sds.sub (es := ds.drop (kn + 1)) fun x hx => List.mem_of_mem_drop hx).mono (k' := m + 2) (by omega) (Nat.le_refl _)
        have D0 := (sds.sub (es := ds.drop kn) fun x hx => List.mem_of_mem_drop hx).mono (k' := m + 2) (by omega) (Nat.le_refl _)
        have R := (sds.sub (es := ds.reverse) fun x hx => List.mem_reverse.mp hx).mono (k' := m + 2) (by omega) (Nat.le_refl _)
        have M : Sh (m + 2) dk.bulk dk := ⟨sdk.sh, sdk.ls, Nat.le_trans sdk.dp (by omega), Nat.le_refl _⟩
        have bc := bulkAll_cut ds kn
        have br := bulkAll_rev ds
        have brep := bulkAll_rep ds 2
        rcases w5 with w | w | w | w | w
        · exact go 0 _ w rfl ((A.app D1).tup.mono (Nat.le_refl _) (by omega))
        · exact go 1 _ w rfl (((A.app M.at).app D0).tup.mono (Nat.le_refl _) (by omega))
        · exact go 2 _ w rfl (S.lst.mono (Nat.le_refl _) (by omega))
        · exact go 3 _ w rfl (R.tup.mono (Nat.le_refl _) (by omega))
        · refine go 4 _ w rfl (((sds.sub (es := (List.replicate 2 ds).flatten) fun x hx => ?_).mono (k' := m + 2) (by omega) (Nat.le_refl _)).tup.mono (Nat.le_refl _) (by omega))
          simp only [List.replicate, List.flatten_cons, List.flatten_nil, List.append_nil, List.mem_append, or_self] at hx
          exact hx
theorem ok_bent (T : TBent K mg) : ∀ n : Nat, n ≤ 100 → Ok P w K mg base CX0 (6 + n) "_law_bent" ["pen", "value"] (spBent n)
  | 0, h => bent_step T 0 h (T.d_bent.ok (k := 4) sc__law_bent bi__law_bent (fun vs H Q E h => by obtain ⟨m, e, _⟩ := h; cases e) (fun cdv A outer s H f vs Q E hr h => by obtain ⟨m, e, _⟩ := h; cases e))
  | n + 1, h => bent_step T (n + 1) h (by
      have z := (ok_bent T n (by omega)).imp (sp' := spBentI (n + 1)) fun vs H Q E h => by
        obtain ⟨m, e, x⟩ := h
        cases e
        exact x
      rw [show 5 + (n + 1) = 6 + n by omega]
      exact z)
/-! #### a program with an instruction bent -/
theorem sh_int {i : Int} (h0 : -1 ≤ i) (h1 : i ≤ 70000) : Sh 0 0 (.int i) := by
  by_cases z : i = -1
  · subst z
    exact ⟨by decide +kernel, by decide +kernel, Nat.le_refl _, Nat.le_refl _⟩
  · refine ⟨?_, ?_, Nat.le_refl _, Nat.le_refl _⟩
    · show decide (i.natAbs.log2 < 1920) = true
      refine decide_eq_true ?_
      by_cases z : i.natAbs = 0
      · rw [z]
        decide
      · rw [Nat.log2_lt z]
        refine Nat.lt_of_lt_of_le (show i.natAbs < 2 ^ 20 from ?_) (Nat.pow_le_pow_right (by decide) (by decide))
        have : (2 : Nat) ^ 20 = 1048576 := by decide
        omega
    · show decide ((PyData.shown (.int i)).length ≤ 24) = true
      exact decide_eq_true (Nat.le_trans (PyData.shown_int_le (by
        have : (10 : Nat) ^ 12 = 1000000000000 := by decide
        omega)) (by decide))
theorem sh_wordI {w : Str} (h : w ∈ (["number", "copy", "add", "read", "write", "fail", "input", "show", "branch", "call", "wake"] : List Str)) : Sh 0 6 (.str w) := by
  have z : ∀ w ∈ (["number", "copy", "add", "read", "write", "fail", "input", "show", "branch", "call", "wake"] : List Str), (PyData.str w).leavesShort 24 = true ∧ w.cps.size ≤ 6 := by decide +kernel
  obtain ⟨h1, h2⟩ := z w h
  exact ⟨rfl, h1, Nat.le_refl _, h2⟩
theorem sh_bl {b : Bool} : Sh 0 0 (.bool b) := ⟨rfl, rfl, Nat.le_refl _, Nat.le_refl _⟩
theorem shs_nil {k : Nat} : Shs k 0 [] := ⟨fun _ h => (by cases h), fun _ h => (by cases h), fun _ h => (by cases h), Nat.le_refl _⟩
theorem Sh.cons {k b c : Nat} {d : PyData} {ds : List PyData} (h : Sh k b d) (g : Shs k c ds) : Shs k (b + 1 + c) (d :: ds) := h.at.app g
theorem prog_parts {d : PyData} (ok : okProg d = true) : ∃ us fns : List PyData, d = .tuple [.tuple us, .tuple fns] ∧ 1 ≤ us.length ∧ us.length ≤ 6 ∧ 1 ≤ fns.length ∧ fns.length ≤ 4 ∧
    (∀ (i : Nat) (u : PyData), us[i]? = some u → ∃ (p : PyData) (fz : Int) (is : List PyData), u = .tuple [p, .int fz, .tuple is] ∧ 0 ≤ fz ∧ fz ≤ 3 ∧ is.length ≤ 6 ∧ is.all (okIns false (limsI us.length) (us.map fieldsD)) = true ∧ (p = .none ∨ ∃ k, p = .int k ∧ 0 ≤ k ∧ k ≤ 5)) ∧
    (∀ (i : Nat) (f : PyData), fns[i]? = some f → ∃ (u : Int) (bs : List PyData), f = .tuple [.int u, .tuple bs] ∧ 0 ≤ u ∧ u ≤ (us.length : Int) - 1 ∧ 1 ≤ bs.length ∧ bs.length ≤ 8 ∧ ∀ (j : Nat) (b : PyData), bs[j]? = some b → okIns true (limsF us.length bs.length (i : Nat) (fns.length : Nat) (j : Nat)) (us.map fieldsD) b = true) := by
  obtain ⟨us, fns, rfl⟩ := okProg_tup ok
  have h' : (okUnits (.tuple us) && okFuns (us.length : Nat) (.tuple fns) && us.all (fun u => okInit (us.map fieldsD) (bodyD u)) && (List.range fns.length).all fun i => okCode (i : Nat) (fns.length : Nat) (us.map fieldsD) (bodyD (fns.getD i .none))) = true := ok
  rw [Bool.and_eq_true, Bool.and_eq_true, Bool.and_eq_true, List.all_eq_true, List.all_eq_true] at h'
  obtain ⟨us', e, u6, u1, hu⟩ := okUnits_tup h'.1.1.1
  cases e
  obtain ⟨fns', e, f4, f1, hf⟩ := okFuns_tup h'.1.1.2
  cases e
  refine ⟨us, fns, rfl, u1, u6, f1, f4, fun i u hi => ?_, fun i f hi => ?_⟩
  · obtain ⟨p, fz, b, rfl, z0, z3, hp⟩ := okUnit_tup (hu i u hi)
    have il := (List.getElem?_eq_some_iff.mp hi).1
    have hb : okInit (us.map fieldsD) b = true := h'.1.2 _ (List.mem_of_getElem? hi)
    unfold okInit at hb
    split at hb
    · rename_i is
      rw [Bool.and_eq_true, decide_eq_true_eq, List.length_map] at hb
      refine ⟨p, fz, is, rfl, z0, z3, hb.1, hb.2, ?_⟩
      rcases hp with rfl | ⟨k, rfl, k0, k1⟩
      · exact .inl rfl
      · exact .inr ⟨k, rfl, k0, by omega⟩
    · cases hb
  · obtain ⟨u, b, rfl, z0, z1⟩ := okFun_tup (hf f (List.mem_of_getElem? hi))
    have il := (List.getElem?_eq_some_iff.mp hi).1
    have hb := h'.2 i (List.mem_range.mpr il)
    rw [getD_at hi] at hb
    have hb' : okCode (i : Nat) (fns.length : Nat) (us.map fieldsD) b = true := hb
    unfold okCode at hb'
    split at hb'
    · rename_i is
      rw [Bool.and_eq_true, Bool.and_eq_true, decide_eq_true_eq, decide_eq_true_eq, List.all_eq_true, List.length_map] at hb'
      refine ⟨u, is, rfl, z0, z1, hb'.1.1, hb'.1.2, fun j bj hj => ?_⟩
      have z := hb'.2 j (List.mem_range.mpr (List.getElem?_eq_some_iff.mp hj).1)
      rw [getD_at hj] at z
      exact z
    · cases hb'
end
end FW
set_option Elab.async false
set_option linter.all false
set_option maxRecDepth 100000
set_option maxHeartbeats 4000000
namespace FW
open PySem PySem.Spec PyProof.Rows L2
open Evl (pss_cut tCut)
open Evl (Ex Ev EvT EvA EvL EvU RC RV fresh_back ev_var ev_c ea_nil ea_cons ev_cb ev_op ev_is ev_andV ev_orV ev_notV et_test et_B et_and et_or et_not et_is s_ret s_when q_when q_asg q_asgL q_asgU rv_I0 rv_eq rv_ne rv_ixT rv_ixL)
section
variable {P : Program} {w : World} {K : PySem.W.Frag} {mg : Str → Option Value} {base : Heap}
def spOneBent : Sp := fun vs H Q _ => ∃ (p : Addr) (S : List Addr) (B : Nat) (v : V) (d : PyData), vs = [.ref p, v] ∧ p ∈ S ∧ AllS H S ∧ Pen H p B ∧ B ≤ 800000000 ∧ Da (offL H S) v d ∧ okProg d = true ∧ Sh 5 20000 d ∧ ∀ H' v' d', PAt p (B + 10) H H' → Da (offL H' S) v' d' → Sh 7 (d.bulk + 200) d' → Q v' H'
theorem ok_one_bent (T : TBent K mg) : Ok P w K mg base CX0 5 "_law_one_bent" ["pen", "program"] spOneBent := by
  have G__law_take : Ok P w K mg base CX0 2 "_law_take" ["pen", "amount"] spTake := ok_take T.toTPen
  have G__law_one_of : Ok P w K mg base CX0 3 "_law_one_of" ["pen", "some"] spPick := ok_pick T.toTDraw
  have G__law_odd : Ok P w K mg base CX0 4 "_law_odd" ["pen"] spOdd := ok_odd T
  refine T.d_one_bent.ok sc__law_one_bent bi__law_one_bent (fun vs H Q E h => ?_) (fun cdv A outer s H f vs Q E hr h => ?_)
  · obtain ⟨p, S, B, v, d, rfl, _⟩ := h
    rfl
  · obtain ⟨p, S, B, v, d, rfl, hpS, hS, hp, hB, hd, ok, sd, q⟩ := h
    refine ⟨_, (pss_cons (ps_asg (pv 1) (pg_tup rfl (pgs_cons (pg_name (i := 2) sc__law_one_bent.nd rfl (Or.inl rfl)) (pgs_cons (pg_name (i := 3) sc__law_one_bent.nd rfl (Or.inl rfl)) pgs_nil))))
    (pss_cons (ps_set (i := 4) sc__law_one_bent.nd rfl (Or.inl rfl) (pe_callO G__law_take (hr.mono (by decide)) (pa_cons (pv 0) (pa_cons (pe_callB call_len_seq (by rfl) T.b_len (by decide +kernel) (pa_cons (pv 3) pa_nil)) pa_nil))))
    (pss_cons (ps_asg (pe_ix ix_tup (pv 3) (pv 4) (fun _ _ => rfl)) (pg_tup rfl (pgs_cons (pg_name (i := 5) sc__law_one_bent.nd rfl (Or.inl rfl)) (pgs_cons (pg_name (i := 6) sc__law_one_bent.nd rfl (Or.inl rfl)) pgs_nil))))
    (pss_cons (ps_par (i := 7) (j := 8) (by rfl) sc__law_one_bent.nd rfl rfl (by decide) rfl rfl (pa_cons (pe_callO G__law_take (hr.mono (by decide)) (pa_cons (pv 0) (pa_cons (pe_callB call_len_seq (by rfl) T.b_len (by decide +kernel) (pa_cons (pv 6) pa_nil)) pa_nil))) (pa_cons (pe_lc (own := [("one", 9)]) rfl sc__law_one_bent.nd (pi_tup (pv 2)) (blkOk_by (N := N__law_one_bent) (sc := defScope s__law_one_bent) (by decide +kernel)) (fun _ _ _ _ _ => (pg_name (i := 9) sc__law_one_bent.nd rfl (Or.inl rfl))) (fun _ _ _ _ _ => pts_nil) (fun _ _ _ _ _ => (pe_ix (ix_tupK (K := K) rfl) (pv 9) pe_int (fun _ _ => rfl)))) pa_nil)) (by rfl))
    (pss_cons (ps_set (i := 10) sc__law_one_bent.nd rfl (Or.inl rfl) (pe_lst (pa_cons (pe_tup (pa_cons pe_str (pa_cons (pv 4) pa_nil))) (pa_cons (pe_tup (pa_cons pe_str (pa_cons (pe_op op_add (pv 4) pe_int) pa_nil))) (pa_cons (pe_tup (pa_cons pe_str (pa_cons (pe_callB call_len_seq (by rfl) T.b_len (by decide +kernel) (pa_cons (pv 6) pa_nil)) pa_nil))) (pa_cons (pe_tup (pa_cons pe_str (pa_cons (pe_op op_add (pe_callB call_len_seq (by rfl) T.b_len (by decide +kernel) (pa_cons (pv 6) pa_nil)) pe_int) pa_nil))) (pa_cons (pe_tup (pa_cons pe_str (pa_cons (pe_un un_neg pe_int) pa_nil))) pa_nil)))))))
    (pss_cons (ps_set (i := 10) sc__law_one_bent.nd rfl (Or.inl rfl) (pe_op op_cat (pv 10) (pe_lst (pa_cons (pe_tup (pa_cons pe_str (pa_cons pe_int (pa_cons (pv 7) pa_nil)))) (pa_cons (pe_tup (pa_cons pe_str (pa_cons pe_int (pa_cons (pe_op op_add (pv 7) pe_int) pa_nil)))) (pa_cons (pe_tup (pa_cons pe_str (pa_cons (pe_callB call_len_seq (by rfl) T.b_len (by decide +kernel) (pa_cons (pv 2) pa_nil)) (pa_cons (pe_op op_add (pv 7) pe_int) pa_nil)))) (pa_cons (pe_tup (pa_cons pe_str (pa_cons pe_int pa_nil))) pa_nil)))))))
    (pss_cons (ps_set (i := 10) sc__law_one_bent.nd rfl (Or.inl rfl) (pe_op op_cat (pv 10) (pe_lst (pa_cons (pe_tup (pa_cons pe_str (pa_cons pe_int (pa_cons pe_int (pa_cons pe_int pa_nil))))) (pa_cons (pe_tup (pa_cons pe_str (pa_cons pe_int (pa_cons pe_int (pa_cons (pe_ix ix_list (pv 8) pe_int (fun _ _ => rfl)) pa_nil))))) (pa_cons (pe_tup (pa_cons pe_str (pa_cons pe_int (pa_cons (pe_ix ix_list (pv 8) pe_int (fun _ _ => rfl)) (pa_cons pe_int pa_nil))))) (pa_cons (pe_tup (pa_cons pe_str (pa_cons pe_bl pa_nil))) pa_nil)))))))
    (pss_cons (ps_set (i := 10) sc__law_one_bent.nd rfl (Or.inl rfl) (pe_op op_cat (pv 10) (pe_lst (pa_cons (pe_tup (pa_cons pe_str (pa_cons pe_int (pa_cons pe_int pa_nil)))) (pa_cons (pe_callO G__law_odd (hr.mono (by decide)) (pa_cons (pv 0) pa_nil)) pa_nil)))))
    (pss_cons (ps_set (i := 11) sc__law_one_bent.nd rfl (Or.inl rfl) (pe_op op_catA (pe_op op_catA (pe_slice sl_tupA (pv 6) po_none (po_some (pv 7))) (pe_tup (pa_cons (pe_callO G__law_one_of (hr.mono (by decide)) (pa_cons (pv 0) (pa_cons (pv 10) pa_nil))) pa_nil))) (pe_slice sl_tupA (pv 6) (po_some (pe_op op_add (pv 7) pe_int)) po_none)))
    (pss_one (ps_ret (pe_tup (pa_cons (pv 2) (pa_cons (pe_op op_catA (pe_op op_catA (pe_slice sl_tupA (pv 3) po_none (po_some (pv 4))) (pe_tup (pa_cons (pe_tup (pa_cons (pv 5) (pa_cons (pv 11) pa_nil))) pa_nil))) (pe_slice sl_tupA (pv 3) (po_some (pe_op op_add (pv 4) pe_int)) po_none)) pa_nil)))))))))))))), ?_⟩
    obtain ⟨us, fns, rfl, u1, u6, f1, f4, hus, hfs⟩ := prog_parts ok
    obtain ⟨a, xs, rfl, ha, hds, nap⟩ := Da.tupO hd
    cases hds with
    | @cons v1 r1 _ _ g1 hds =>
    cases hds with
    | @cons v2 r2 _ _ g2 hds =>
    cases hds
    obtain ⟨ua, uxs, rfl, hua, huds, nua⟩ := Da.tupO g1
    obtain ⟨fa, fxs, rfl, hfa, hfds, nfa⟩ := Da.tupO g2
    refine ⟨_, rfl, a, _, rfl, st_h ha, rfl, _, _, rfl, _, _, rfl, rfl, ?_⟩
    refine ⟨_, rfl, _, rfl, fa, fxs, rfl, .inr (st_h hfa), p, _, _, rfl, hp, by omega, by have := hfds.len; omega, by have := hfds.len; omega, fun H2 nb s2 p2 nb0 nb1 => ?_⟩
    have c2 := (PAt.refl hp).take s2 p2
    obtain ⟨n, rfl⟩ := Int.eq_ofNat_of_zero_le nb0
    have hn : n < fns.length := by have := hfds.len; omega
    obtain ⟨fd, hfd⟩ : ∃ fd, fns[n]? = some fd := ⟨_, List.getElem?_eq_getElem hn⟩
    obtain ⟨u, bs, rfl, w0, w1, b1, b8, _⟩ := hfs n fd hfd
    obtain ⟨vf, hvf, dvf⟩ := (hfds.ex (offL_off hpS c2.ex)).of hfd
    obtain ⟨af, fx, rfl, haf, hfx, _⟩ := Da.tupO dvf
    cases hfx with
    | @cons w1 r1 _ _ k1 hfx =>
    cases hfx with
    | @cons w2 r2 _ _ k2 hfx =>
    cases hfx
    cases k1
    obtain ⟨ba, bxs, rfl, hba, hbs, nba⟩ := Da.tupO k2
    have hfa2 := offL_sub _ _ (offL_off hpS c2.ex _ _ (offL_of hfa nfa))
    refine ⟨_, rfl, _, rfl, fa, fxs, (n : Int), .ref af, rfl, rfl, st_h hfa2, atI_nat hvf, ?_⟩
    refine ⟨af, _, rfl, st_h haf, rfl, _, _, rfl, _, _, rfl, rfl, ?_⟩
    have lb := hbs.len
    refine ⟨_, rfl, _, rfl, ba, bxs, rfl, .inr (st_h hba), p, _, _, rfl, c2.pen, by omega, by omega, by omega, fun H3 pz s3 p3 pz0 pz1 => ?_⟩
    have c3 := c2.take s3 p3
    obtain ⟨pl, rfl⟩ := Int.eq_ofNat_of_zero_le pz0
    have hpl : pl < bs.length := by omega
    have hua3 := offL_sub _ _ (offL_off hpS c3.ex _ _ (offL_of hua nua))
    have huds3 := huds.ex (offL_off hpS c3.ex)
    have lu := huds3.len
    refine (el_lcT (K := K) (a := ua) (xs := uxs) (j := 9) (vs := [9]) (te := tOp (rIxT K) (tVar 9) (tC (.int 1))) (fun i => .int (fieldsD (us.getD i .none))) (ev_var rfl) (st_h hua3) (by omega) (fun _ => rfl) fun k x H' x' hk => ?_) H3 (Ex.refl _) _ fun hl H4 nhl e4 hhl => ?_
    · obtain ⟨uk, huk, duk⟩ := (huds3.ex (offL_mono x')).at hk
      obtain ⟨pp, fz, is, rfl, _⟩ := hus k uk huk
      obtain ⟨ka, kx, rfl, hka, hkx, _⟩ := Da.tupO duk
      cases hkx with
      | @cons q1 r1 _ _ m1 hkx =>
      cases hkx with
      | @cons q2 r2 _ _ m2 hkx =>
      cases m2
      rw [getD_at huk]
      exact ev_op (ev_var rfl) ev_c (rv_ixT (st_h hka) (atI_nat (j := 1) rfl))
    have c4 := c3.more e4
    obtain ⟨u0d, hu0⟩ : ∃ u0d, us[0]? = some u0d := ⟨_, List.getElem?_eq_getElem (by omega)⟩
    obtain ⟨pp0, z, is0, eu0, z0, z3, _⟩ := hus 0 u0d hu0
    have hz0 : ((List.range uxs.length).map fun i => V.int (fieldsD (us.getD i .none)))[0]? = some (.int z) := by
      rw [List.getElem?_map, List.getElem?_range (by omega)]
      show some (V.int (fieldsD (us.getD 0 .none))) = _
      rw [getD_at hu0, eu0]
      rfl
    have hp4 := (hS.pat c4)
    have hba4 := e4 _ _ (offL_sub _ _ (offL_off hpS s3 _ _ (offL_of hba nba)))
    refine ⟨_, _, rfl, ?_⟩
    have hua4 := e4 _ _ hua3
    -- what may stand there
    refine q_asgDl (S := S) (ds := [.tuple [.str "call", .int (n : Int)], .tuple [.str "call", .int ((n : Int) + 1)], .tuple [.str "branch", .int (bxs.length : Int)], .tuple [.str "branch", .int ((bxs.length : Int) + 1)], .tuple [.str "branch", .int (-1)]])
      (dl_lst (ed_cons (ed_tup hp4 (ed_cons ed_s (ed_cons (ed_int (ev_var rfl)) ed_nil)) (by show 2 ≤ 100000; decide)) (ed_cons (ed_tup hp4 (ed_cons ed_s (ed_cons (ed_int (ev_op (ev_var rfl) ev_c rv_I0)) ed_nil)) (by show 2 ≤ 100000; decide))
        (ed_cons (ed_tup hp4 (ed_cons ed_s (ed_cons (ed_int (ev_lenT (K := K) (ev_var rfl) (st_h hba4))) ed_nil)) (by show 2 ≤ 100000; decide)) (ed_cons (ed_tup hp4 (ed_cons ed_s (ed_cons (ed_int (ev_op (ev_lenT (K := K) (ev_var rfl) (st_h hba4)) ev_c rv_I0)) ed_nil)) (by show 2 ≤ 100000; decide))
        (ed_cons (ed_tup hp4 (ed_cons ed_s (ed_cons ed_neg ed_nil)) (by show 2 ≤ 100000; decide)) ed_nil))))) (by show 5 ≤ 100000; decide)) fun l1 x1 H5 e5 d1 nl1 => ?_
    have x5 := e5.trans (Ex.new nl1 (o := .lst x1))
    have d1' := d1.ex (offL_mono (same_new nl1 (o := .lst x1)))
    have hl1 : (upd H5 l1 (.lst x1)) l1 = some (.lst x1) := upd_same
    generalize upd H5 l1 (.lst x1) = H6 at x5 d1' hl1 ⊢
    have hp6 := some_ex hp4 x5
    refine q_asgDl (S := S) (dl_cat (es := [.tuple [.str "wake", .int 0, .int (pl : Int)], .tuple [.str "wake", .int 0, .int ((pl : Int) + 1)], .tuple [.str "wake", .int (uxs.length : Int), .int ((pl : Int) + 1)], .tuple [.str "fail", .int 0]]) (dw_var rfl hl1 d1') (dw_new hp6
      (dl_lst (ed_cons (ed_tup hp6 (ed_cons ed_s (ed_cons ed_i (ed_cons (ed_int (ev_var rfl)) ed_nil))) (by show 3 ≤ 100000; decide)) (ed_cons (ed_tup hp6 (ed_cons ed_s (ed_cons ed_i (ed_cons (ed_int (ev_op (ev_var rfl) ev_c rv_I0)) ed_nil))) (by show 3 ≤ 100000; decide))
        (ed_cons (ed_tup hp6 (ed_cons ed_s (ed_cons (ed_int (ev_lenT (K := K) (ev_var rfl) (st_h (x5 _ _ hua4)))) (ed_cons (ed_int (ev_op (ev_var rfl) ev_c rv_I0)) ed_nil))) (by show 3 ≤ 100000; decide)) (ed_cons (ed_tup hp6 (ed_cons ed_s (ed_cons ed_i ed_nil)) (by show 2 ≤ 100000; decide)) ed_nil)))) (by show 4 ≤ 100000; decide)))
        (by show 9 ≤ 100000; decide)) fun l2 x2 H7 e7 d2 nl2 => ?_
    have x7 := x5.trans (e7.trans (Ex.new nl2 (o := .lst x2)))
    have d2' := d2.ex (offL_mono (same_new nl2 (o := .lst x2)))
    have hl2 : (upd H7 l2 (.lst x2)) l2 = some (.lst x2) := upd_same
    generalize upd H7 l2 (.lst x2) = H8 at x7 d2' hl2 ⊢
    have hp8 := some_ex hp4 x7
    have hhl8 := x7 _ _ hhl
    have hix : ∀ {σ : L2.St} {H : Hp}, σ[8]? = some (some (.ref hl)) → Ex H8 H → Ev (tOp (rIxL K) (tVar 8) (tC (.int 0))) σ H (.int z) := fun hσ e => ev_op (ev_var hσ) ev_c (Evl.rv_ixL (.inl (.inl (e _ _ hhl8))) (atI_nat (j := 0) hz0))
    refine q_asgDl (S := S) (dl_cat (es := [.tuple [.str "read", .int 3, .int 0, .int 0], .tuple [.str "read", .int 0, .int 0, .int z], .tuple [.str "write", .int 0, .int z, .int 0], .tuple [.str "show", .bool true]]) (dw_var rfl hl2 d2') (dw_new hp8
      (dl_lst (ed_cons (ed_tup hp8 (ed_cons ed_s (ed_cons ed_i (ed_cons ed_i (ed_cons ed_i ed_nil)))) (by show 4 ≤ 100000; decide)) (ed_cons (ed_tup hp8 (ed_cons ed_s (ed_cons ed_i (ed_cons ed_i (ed_cons (ed_int (hix rfl (Ex.refl _))) ed_nil)))) (by show 4 ≤ 100000; decide))
        (ed_cons (ed_tup hp8 (ed_cons ed_s (ed_cons ed_i (ed_cons (ed_int (hix rfl (Ex.refl _))) (ed_cons ed_i ed_nil)))) (by show 4 ≤ 100000; decide)) (ed_cons (ed_tup hp8 (ed_cons ed_s (ed_cons ed_b ed_nil)) (by show 2 ≤ 100000; decide)) ed_nil)))) (by show 4 ≤ 100000; decide)))
        (by show 13 ≤ 100000; decide)) fun l3 x3 H9 e9 d3 nl3 => ?_
    have x9 := x7.trans (e9.trans (Ex.new nl3 (o := .lst x3)))
    have d3' := d3.ex (offL_mono (same_new nl3 (o := .lst x3)))
    have hl3 : (upd H9 l3 (.lst x3)) l3 = some (.lst x3) := upd_same
    have l3p : l3 ≠ p := fun z => ne_some (some_ex hp8 e9) nl3 (z ▸ hpS)
    generalize upd H9 l3 (.lst x3) = H10 at x9 d3' hl3 ⊢
    have c10 := c4.more x9
    -- one of any kind
    refine ⟨_, rfl, ?_⟩
    refine ⟨sz_of (by show 3 ≤ 100000; decide), fun vn nvn => ?_⟩
    have dn := da_tupS (ds := [.str "number", .int 0, .int 65536]) (hS.pat c10) nvn (.cons (.str _) (.cons (.int _) (.cons (.int _) .nil)))
    have e11 : Ex H10 (upd H10 vn (.tup [.str "number", .int 0, .int 65536])) := Ex.new nvn
    have c11 := c10.more e11
    generalize upd H10 vn (.tup [.str "number", .int 0, .int 65536]) = H11 at dn e11 c11 ⊢
    refine ⟨_, rfl, p, S, _, rfl, hpS, hS.pat c11, c11.pen, by omega, fun H12 vo od c12 dod mod => ?_⟩
    have C12 := c11.trans c12
    have hl3' := c12.lst (e11 _ _ hl3) l3p
    have d3'' := (d3'.ex (offL_mono e11)).ex (offL_off hpS c12.ex)
    have l3len := d3''.len
    refine ⟨sz_of (by show 2 ≤ 100000; decide), fun l4 nl4 => ?_⟩
    refine ⟨l3, l4, x3, [.ref vn, vo], rfl, rfl, same_new nl4 _ _ hl3', upd_same, sz_of (by rw [l3len]; show 15 ≤ 100000; decide), fun l5 nl5 => ?_⟩
    have e12 := (Ex.new nl4 (o := .lst [.ref vn, vo])).trans (Ex.new nl5 (o := .lst (x3 ++ [.ref vn, vo])))
    have C13 := C12.more e12
    have hl5 : (upd (upd H12 l4 (.lst [.ref vn, vo])) l5 (.lst (x3 ++ [.ref vn, vo]))) l5 = some (.lst (x3 ++ [.ref vn, vo])) := upd_same
    have l5p : l5 ≠ p := (C12.new nl4 (o := .lst [.ref vn, vo])).pen.ne nl5
    have d5 := (d3''.ex (offL_mono e12)).app (.cons ((dn.ex (offL_off hpS c12.ex)).ex (offL_mono e12)) (.cons (dod.ex (offL_mono e12)) .nil))
    generalize upd (upd H12 l4 (.lst [.ref vn, vo])) l5 (.lst (x3 ++ [.ref vn, vo])) = H13 at C13 hl5 d5 e12 ⊢
    have eoff : Ex (offL H2 S) (offL H13 S) := ((((Ex.trans (offL_off hpS s3) (offL_mono e4)).trans (offL_mono x9)).trans (offL_mono e11)).trans (offL_off hpS c12.ex)).trans (offL_mono e12)
    have kb := k2.ex eoff
    -- bent
    refine ed_take (K := K) (S := S) (i := pl) (hS.pat C13) (ed_var rfl kb) (ev_var rfl) H13 (Ex.refl _) _ fun v14 H14 e14 dv14 => ?_
    have C14 := C13.more e14
    refine ⟨_, rfl, _, rfl, p, l5, _, _, rfl, C14.pen, by omega, off_of (e14 _ _ hl5) l5p, by rw [List.length_append]; exact Nat.lt_add_left _ (by show 0 < 2; decide), by rw [List.length_append, l3len]; show 15 < 1000000; decide, fun H15 x s15 p15 hx => ?_⟩
    have C15 := C14.take s15 p15
    obtain ⟨dx, hdx, ddx⟩ := ((d5.ex (offL_mono e14)).ex (offL_off hpS s15)).mem hx
    have shx : Sh 2 40 dx := by
      have W : ∀ {w : Str} {b : Nat} {ds : List PyData}, w ∈ (["number", "copy", "add", "read", "write", "fail", "input", "show", "branch", "call", "wake"] : List Str) → Shs 0 b ds → b ≤ 20 → Sh 2 40 (.tuple (.str w :: ds)) := fun hw hs hb => ((sh_wordI hw).cons hs).tup.mono (by decide) (by omega)
      have I : ∀ {i : Int}, -1 ≤ i → i ≤ 70000 → Sh 0 0 (.int i) := fun h0 h1 => sh_int h0 h1
      simp only [List.mem_append, List.mem_cons, List.not_mem_nil, or_false] at hdx
      have hlu : uxs.length ≤ 6 := by omega
      rcases hdx with (((rfl | rfl | rfl | rfl | rfl) | (rfl | rfl | rfl | rfl)) | (rfl | rfl | rfl | rfl)) | (rfl | rfl)
      · exact W (by decide) ((I (by omega) (by omega)).cons shs_nil) (by decide)
      · exact W (by decide) ((I (by omega) (by omega)).cons shs_nil) (by decide)
      · exact W (by decide) ((I (by omega) (by omega)).cons shs_nil) (by decide)
      · exact W (by decide) ((I (by omega) (by omega)).cons shs_nil) (by decide)
      · exact W (by decide) ((I (by omega) (by omega)).cons shs_nil) (by decide)
      · exact W (by decide) ((I (by omega) (by omega)).cons ((I (by omega) (by omega)).cons shs_nil)) (by decide)
      · exact W (by decide) ((I (by omega) (by omega)).cons ((I (by omega) (by omega)).cons shs_nil)) (by decide)
      · exact W (by decide) ((I (by omega) (by omega)).cons ((I (by omega) (by omega)).cons shs_nil)) (by decide)
      · exact W (by decide) ((I (by omega) (by omega)).cons shs_nil) (by decide)
      · exact W (by decide) ((I (by omega) (by omega)).cons ((I (by omega) (by omega)).cons ((I (by omega) (by omega)).cons shs_nil))) (by decide)
      · exact W (by decide) ((I (by omega) (by omega)).cons ((I (by omega) (by omega)).cons ((I (by omega) (by omega)).cons shs_nil))) (by decide)
      · exact W (by decide) ((I (by omega) (by omega)).cons ((I (by omega) (by omega)).cons ((I (by omega) (by omega)).cons shs_nil))) (by decide)
      · exact W (by decide) (sh_bl.cons shs_nil) (by decide)
      · exact W (by decide) ((I (by omega) (by omega)).cons ((I (by omega) (by omega)).cons shs_nil)) (by decide)
      · exact (odd_sh mod).mono (by decide) (by decide)
    refine ⟨sz_of (by show 1 ≤ 100000; decide), fun t16 nt16 => ?_⟩
    have C16 := C15.new nt16 (o := .tup [x])
    have dt16 : Da (offL (upd H15 t16 (.tup [x])) S) (.ref t16) (.tuple [dx]) := da_tupS  (hS.pat C15) nt16 (.cons ddx .nil)
    have dv16 : Da (offL (upd H15 t16 (.tup [x])) S) v14 (.tuple (bs.take pl)) := (dv14.ex (offL_off hpS s15)).ex (offL_mono (same_new nt16))
    have e1316 : Ex (offL H13 S) (offL (upd H15 t16 (.tup [x])) S) := ((offL_mono e14).trans (offL_off hpS s15)).trans (offL_mono (same_new nt16))
    refine cat_da (hS.pat C16) dv16 dt16 (by rw [List.length_take, List.length_singleton]; omega) fun v17 H17 e17 dv17 => ?_
    have C17 := C16.more e17
    have kb17 := kb.ex (e1316.trans (offL_mono e17))
    refine ed_drop (K := K) (S := S) (te := tVar 6) (tb := tOp (rI0 fun i j => V.int (i + j)) (tVar 7) (tC (.int 1))) (i := pl + 1) (hS.pat C17) (ed_var rfl kb17) (fun H1 e Q' q' => ⟨_, rfl, (pl : Int), 1, rfl, rfl, q' H1 (Ex.refl _)⟩) H17 (Ex.refl _) _ fun v18 H18 e18 dv18 => ?_
    have C18 := C17.more e18
    refine cat_da (hS.pat C18) (dv17.ex (offL_mono e18)) dv18 (by rw [List.length_append, List.length_take, List.length_drop, List.length_singleton]; omega) fun v19 H19 e19 dv19 => ?_
    have C19 := C18.more e19
    -- the program
    have hp19 := (hS.pat C19)
    have gu := g1.ex (offL_off hpS C19.ex)
    have gf := g2.ex (offL_off hpS C19.ex)
    refine (ed_tup (S := S) hp19 (ed_cons (ed_var (i := 2) rfl gu) (ed_cons (ed_cat (K := K) hp19 (ed_cat (K := K) hp19 (ed_take (i := n) hp19 (ed_var (i := 3) rfl gf) (ev_var (i := 4) rfl))
      (ed_tup hp19 (ed_cons (ed_tup hp19 (ed_cons (ed_int (ev_var (i := 5) rfl)) (ed_cons (ed_var (i := 11) rfl dv19) ed_nil)) (by show 2 ≤ 100000; decide)) ed_nil) (by show 1 ≤ 100000; decide)) (by rw [List.length_take, List.length_singleton]; omega))
      (ed_drop (i := n + 1) hp19 (ed_var (i := 3) rfl gf) (fun H1 e Q' q' => ⟨_, rfl, (n : Int), 1, rfl, rfl, q' H1 (Ex.refl _)⟩)) (by rw [List.length_append, List.length_take, List.length_drop, List.length_singleton]; omega)) ed_nil)) (by show 2 ≤ 100000; decide)) H19 (Ex.refl _) _ fun v20 H20 e20 dv20 => ?_
    refine q H20 v20 _ ((C19.more e20).mono (by omega)) dv20 ?_
    have S0 := sd.tupI
    have su := S0.mem (d := .tuple us) List.mem_cons_self
    have sfns := (S0.mem (d := .tuple fns) (List.mem_cons_of_mem _ List.mem_cons_self)).tupI
    have sfd := (sfns.mem (List.mem_of_getElem? hfd)).tupI
    have sbs := (sfd.mem (d := .tuple bs) (List.mem_cons_of_mem _ List.mem_cons_self)).tupI
    have su0 := sfd.mem (d := .int u) List.mem_cons_self
    obtain ⟨db, hdb⟩ : ∃ db, bs[pl]? = some db := ⟨_, List.getElem?_eq_getElem hpl⟩
    have b1 := bulkAll_at hdb
    have b2 := bulkAll_at hfd
    have b3 : (PyData.tuple [.int u, .tuple bs]).bulk = 0 + 1 + (PyData.bulkAll bs + 1 + 0) := rfl
    have b4 : (PyData.tuple [.tuple us, .tuple fns]).bulk = PyData.bulkAll us + 1 + (PyData.bulkAll fns + 1 + 0) := rfl
    have A := (sbs.sub (es := bs.take pl) fun x hx => List.mem_of_mem_take hx).mono (k' := 2) (by omega) (Nat.le_refl _)
    have D := (sbs.sub (es := bs.drop (pl + 1)) fun x hx => List.mem_of_mem_drop hx).mono (k' := 2) (by omega) (Nat.le_refl _)
    have F := (sfns.sub (es := fns.take n) fun x hx => List.mem_of_mem_take hx).mono (k' := 4) (by omega) (Nat.le_refl _)
    have G := (sfns.sub (es := fns.drop (n + 1)) fun x hx => List.mem_of_mem_drop hx).mono (k' := 4) (by omega) (Nat.le_refl _)
    have U0 : Sh 3 0 (.int u) := ⟨su0.sh, su0.ls, Nat.zero_le _, Nat.le_refl _⟩
    have US : Sh 5 (PyData.bulkAll us) (.tuple us) := ⟨su.sh, su.ls, Nat.le_trans su.dp (by omega), Nat.le_refl _⟩
    refine (US.cons ((((F.app (U0.cons ((((A.app shx.at).app D).tup).cons shs_nil)).tup.at).app G).tup).cons shs_nil)).tup.mono (by omega) ?_
    omega
end
end FW
set_option Elab.async false
set_option linter.all false
set_option maxRecDepth 100000
set_option maxHeartbeats 4000000
namespace FW
open PySem PySem.Spec PyProof.Rows L2
open Evl (pss_cut tCut)
open Evl (Ex Ev EvT EvA EvL EvU RC RV fresh_back ev_var ev_c ea_nil ea_cons ev_cb ev_op ev_is ev_andV ev_orV ev_notV et_test et_B et_and et_or et_not et_is s_ret s_when q_when q_asg q_asgL q_asgU rv_I0 rv_eq rv_ne rv_ixT rv_ixL)
structure TChk (K : PySem.W.Frag) (P : Params) (mg : Str → Option Value) : Prop extends TProg K P mg where
  d_between : Df K mg "_law_between" s__law_between
  d_slot : Df K mg "_law_is_slot" s__law_is_slot
  d_field : Df K mg "_law_is_field" s__law_is_field
  d_one : Df K mg "_law_is_one" s__law_is_one
  d_aunits : Df K mg "_law_are_units" s__law_are_units
  d_afuns : Df K mg "_law_are_functions" s__law_are_functions
  d_aprog : Df K mg "_law_is_program" s__law_is_program
/-! ### the law's own check over data -/
def fldv (fs : List Int) (u f : PyData) : Bool := match u with
  | .int u => isIn f 0 (fs.getD u.toNat 0 - 1)
  | _ => false
def lawFld (fs : List Int) (u f : PyData) : Bool := isIn u 0 ((fs.length : Int) - 1) && fldv fs u f
def lawIns (fs : List Int) (num : Option (Int × Int)) (pl sz : Int) (w : Str) (rs : List PyData) : Bool :=
  let a := rs.getD 0 .none
  let b := rs.getD 1 .none
  let c := rs.getD 2 .none
  if w = "number" ∨ w = "add" then decide (rs.length = 2) && (isIn a 0 2 && isIn b 0 65535)
  else if w = "copy" then decide (rs.length = 2) && (isIn a 0 2 && isIn b 0 2)
  else if w = "read" then decide (rs.length = 3) && (isIn a 0 2 && lawFld fs b c)
  else if w = "write" then decide (rs.length = 3) && (lawFld fs a b && isIn c 0 2)
  else match num with
  | none => decide (w = "fail") && decide (rs.length = 0)
  | some (own, nf) =>
    if w = "fail" then decide (rs.length = 0)
    else if w = "input" ∨ w = "show" then decide (rs.length = 1) && isIn a 0 2
    else if w = "branch" then decide (rs.length = 1) && isIn a 0 sz
    else if w = "call" then decide (rs.length = 1) && isIn a (own + 1) (nf - 1)
    else if w = "wake" then decide (rs.length = 2) && (isIn a 0 ((fs.length : Int) - 1) && isIn b (pl + 1) sz)
    else false
def lawOne (fs : List Int) (num : Option (Int × Int)) (pl sz : Int) (d : PyData) : Bool := match d with
  | .tuple (.str w :: rs) => lawIns fs num pl sz w rs
  | _ => false
def lmsOf (fs : List Int) (num : Option (Int × Int)) (pl : Int) (sz : Nat) : Lims := match num with
  | none => limsI fs.length
  | some (own, nf) => limsF fs.length sz own nf pl
theorem okOp_lim {lims : Lims} {fs : List Int} {prev x : PyData} {k : Str} {lo hi : Int} (hf : k ≠ "field") (hl : lims.lookup k = some (lo, hi)) : okOp lims fs prev k x = isIn x lo hi := by
  unfold okOp
  rw [if_neg hf, hl]
theorem okOp_fld {lims : Lims} {fs : List Int} {prev x : PyData} : okOp lims fs prev "field" x = fldv fs prev x := by
  unfold okOp fldv
  rw [if_pos rfl]
  all_goals (cases prev <;> rfl)
theorem kinds_none {w : Str} {b : Bool} (h : w ∉ (["number", "copy", "add", "read", "write", "fail", "input", "show", "branch", "call", "wake"] : List Str)) : kindsOf b w = none := by
  have z : ∀ (fm : List (Str × List Str)), (∀ e ∈ fm, e.1 ∈ (["number", "copy", "add", "read", "write", "fail", "input", "show", "branch", "call", "wake"] : List Str)) → fm.lookup w = none := by
    intro fm hf
    induction fm with
    | nil => rfl
    | cons e r ih =>
      obtain ⟨a, ks⟩ := e
      have ne : w ≠ a := fun z => h (z ▸ hf _ List.mem_cons_self)
      simp only [List.lookup, beq_eq_false_iff_ne.mpr ne]
      exact ih fun e he => hf e (List.mem_cons_of_mem _ he)
  unfold kindsOf
  rw [z formsI (by decide +kernel), z formsF (by decide +kernel)]
  simp
theorem kinds_no {w : Str} (h : w ∉ (["number", "copy", "add", "read", "write", "fail"] : List Str)) : kindsOf false w = none := by
  have z : ∀ (fm : List (Str × List Str)), (∀ e ∈ fm, e.1 ∈ (["number", "copy", "add", "read", "write", "fail"] : List Str)) → fm.lookup w = none := by
    intro fm hf
    induction fm with
    | nil => rfl
    | cons e r ih =>
      obtain ⟨a, ks⟩ := e
      have ne : w ≠ a := fun z => h (z ▸ hf _ List.mem_cons_self)
      simp only [List.lookup, beq_eq_false_iff_ne.mpr ne]
      exact ih fun e he => hf e (List.mem_cons_of_mem _ he)
  unfold kindsOf
  rw [z formsI (by decide +kernel)]
  simp
theorem okIns_none {b : Bool} {lims : Lims} {fs : List Int} {w : Str} {rs : List PyData} (h : kindsOf b w = none) : okIns b lims fs (.tuple (.str w :: rs)) = false := by
  show (match kindsOf b w with | some ks => _ | none => false) = false
  rw [h]
theorem okIns0 {b : Bool} {lims : Lims} {fs : List Int} {w : Str} {rs : List PyData} (h : kindsOf b w = some []) : okIns b lims fs (.tuple (.str w :: rs)) = decide (rs.length = 0) := by
  show (match kindsOf b w with | some ks => _ | none => false) = _
  rw [h]
  show (decide (rs.length = 0) && true) = _
  rw [Bool.and_true]
theorem okIns1 {b : Bool} {lims : Lims} {fs : List Int} {w k : Str} {rs : List PyData} (h : kindsOf b w = some [k]) : okIns b lims fs (.tuple (.str w :: rs)) = (decide (rs.length = 1) && okOp lims fs (.str w) k (rs.getD 0 .none)) := by
  show (match kindsOf b w with | some ks => _ | none => false) = _
  rw [h]
  show (decide (rs.length = 1) && (okOp lims fs (.str w) k (rs.getD 0 .none) && true)) = _
  rw [Bool.and_true]
theorem okIns2 {b : Bool} {lims : Lims} {fs : List Int} {w k l : Str} {rs : List PyData} (h : kindsOf b w = some [k, l]) : okIns b lims fs (.tuple (.str w :: rs)) = (decide (rs.length = 2) && (okOp lims fs (.str w) k (rs.getD 0 .none) && okOp lims fs (rs.getD 0 .none) l (rs.getD 1 .none))) := by
  show (match kindsOf b w with | some ks => _ | none => false) = _
  rw [h]
  show (decide (rs.length = 2) && (okOp lims fs (.str w) k (rs.getD 0 .none) && (okOp lims fs (rs.getD 0 .none) l (rs.getD 1 .none) && true))) = _
  rw [Bool.and_true]
theorem okIns3 {b : Bool} {lims : Lims} {fs : List Int} {w k l m : Str} {rs : List PyData} (h : kindsOf b w = some [k, l, m]) : okIns b lims fs (.tuple (.str w :: rs)) = (decide (rs.length = 3) && (okOp lims fs (.str w) k (rs.getD 0 .none) && (okOp lims fs (rs.getD 0 .none) l (rs.getD 1 .none) && okOp lims fs (rs.getD 1 .none) m (rs.getD 2 .none)))) := by
  show (match kindsOf b w with | some ks => _ | none => false) = _
  rw [h]
  show (decide (rs.length = 3) && (okOp lims fs (.str w) k (rs.getD 0 .none) && (okOp lims fs (rs.getD 0 .none) l (rs.getD 1 .none) && (okOp lims fs (rs.getD 1 .none) m (rs.getD 2 .none) && true)))) = _
  rw [Bool.and_true]
section
variable {fs : List Int} {num : Option (Int × Int)} {pl own nf : Int} {sz : Nat} {prev x : PyData}
theorem lm_slot : okOp (lmsOf fs num pl sz) fs prev "slot" x = isIn x 0 2 := by cases num <;> exact okOp_lim (by decide) rfl
theorem lm_number : okOp (lmsOf fs num pl sz) fs prev "number" x = isIn x 0 65535 := by cases num <;> exact okOp_lim (by decide) rfl
theorem lm_unit : okOp (lmsOf fs num pl sz) fs prev "unit" x = isIn x 0 ((fs.length : Int) - 1) := by cases num <;> exact okOp_lim (by decide) rfl
theorem lm_place : okOp (lmsOf fs (some (own, nf)) pl sz) fs prev "place" x = isIn x 0 (sz : Int) := okOp_lim (by decide) rfl
theorem lm_later : okOp (lmsOf fs (some (own, nf)) pl sz) fs prev "later function" x = isIn x (own + 1) (nf - 1) := okOp_lim (by decide) rfl
theorem lm_behind : okOp (lmsOf fs (some (own, nf)) pl sz) fs prev "later place" x = isIn x (pl + 1) (sz : Int) := okOp_lim (by decide) rfl
end
theorem lawIns_eq {fs : List Int} {num : Option (Int × Int)} {pl : Int} {sz : Nat} {w : Str} {rs : List PyData} : lawIns fs num pl (sz : Int) w rs = okIns num.isSome (lmsOf fs num pl sz) fs (.tuple (.str w :: rs)) := by
  by_cases c1 : w = "number"
  · subst c1
    cases num <;> (rw [okIns2 rfl, lm_slot, lm_number]; rfl)
  by_cases c2 : w = "add"
  · subst c2
    cases num <;> (rw [okIns2 rfl, lm_slot, lm_number]; rfl)
  by_cases c3 : w = "copy"
  · subst c3
    cases num <;> (rw [okIns2 rfl, lm_slot, lm_slot]; rfl)
  by_cases c4 : w = "read"
  · subst c4
    cases num <;> (rw [okIns3 rfl, lm_slot, lm_unit, okOp_fld]; rfl)
  by_cases c5 : w = "write"
  · subst c5
    cases num <;> (rw [okIns3 rfl, lm_unit, okOp_fld, lm_slot, ← Bool.and_assoc (isIn _ _ _)]; rfl)
  unfold lawIns
  dsimp only
  rw [if_neg (not_or.mpr ⟨c1, c2⟩), if_neg c3, if_neg c4, if_neg c5]
  by_cases c6 : w = "fail"
  · subst c6
    cases num <;> (rw [okIns0 rfl]; simp)
  cases num with
  | none =>
    dsimp only
    rw [okIns_none (b := (none : Option (Int × Int)).isSome) (kinds_no (by simp [c1, c2, c3, c4, c5, c6])), decide_eq_false c6, Bool.false_and]
  | some on =>
    obtain ⟨own, nf⟩ := on
    dsimp only
    rw [if_neg c6]
    by_cases c7 : w = "input"
    · subst c7
      rw [okIns1 rfl, lm_slot]
      rfl
    by_cases c8 : w = "show"
    · subst c8
      rw [okIns1 rfl, lm_slot]
      rfl
    rw [if_neg (not_or.mpr ⟨c7, c8⟩)]
    by_cases c9 : w = "branch"
    · subst c9
      rw [okIns1 rfl, lm_place]
      rfl
    rw [if_neg c9]
    by_cases c10 : w = "call"
    · subst c10
      rw [okIns1 rfl, lm_later]
      rfl
    rw [if_neg c10]
    by_cases c11 : w = "wake"
    · subst c11
      rw [okIns2 rfl, lm_unit, lm_behind]
      rfl
    rw [if_neg c11, okIns_none (kinds_none (by simp [c1, c2, c3, c4, c5, c6, c7, c8, c9, c10, c11]))]
theorem lawOne_eq {fs : List Int} {num : Option (Int × Int)} {pl : Int} {sz : Nat} {d : PyData} : lawOne fs num pl (sz : Int) d = okIns num.isSome (lmsOf fs num pl sz) fs d := by
  cases d with
  | tuple ds =>
    cases ds with
    | nil => rfl
    | cons x rs =>
      cases x with
      | str w => exact lawIns_eq
      | _ => rfl
  | _ => rfl
section
variable {P : Program} {w : World} {K : PySem.W.Frag} {mg : Str → Option Value} {base : Heap}
theorem ok_between (T : TChk K w.params mg) : Ok P w K mg base CX0 1 "_law_between" ["value", "low", "high"] spWithin := by
  refine T.d_between.ok sc__law_between bi__law_between (fun vs H Q E h => ?_) (fun cdv A outer s H f vs Q E hr h => ?_)
  · obtain ⟨v, d, lo, hi, rfl, _⟩ := h
    rfl
  · obtain ⟨v, d, lo, hi, rfl, hd, q⟩ := h
    refine ⟨_, (pss_one (ps_ret (pe_and (pe_callB call_isi (by rfl) T.b_isinstance (by decide +kernel) (pa_cons (pv 0) (pa_cons (pe_bltn (by rfl) T.b_int (by decide +kernel) (v := .ty "int") rfl) pa_nil))) (pe_and (pe_not (pe_callB call_isi (by rfl) T.b_isinstance (by decide +kernel) (pa_cons (pv 0) (pa_cons (pe_bltn (by rfl) T.b_bool (by decide +kernel) (v := .ty "bool") rfl) pa_nil)))) (pe_one (pe_chain op_le op_le (pv 1) (pv 0) (pv 2))))))), ?_⟩
    refine s_ret (ev_is (ev_andV (a := isTy d "int") (b := !isTy d "bool" && isIn d lo hi) (ev_isi (ev_var rfl) hd (.inl rfl)) fun ha => ev_andV (a := !isTy d "bool") (b := isIn d lo hi) (ev_notV (ev_isi (ev_var rfl) hd (.inr (.inl rfl)))) fun hb => ?_) ?_) q
    · cases hd with
      | int i => exact ev_chainLe (ev_var rfl) (ev_var rfl) (ev_var rfl)
      | bl b =>
        rw [ty_bool] at hb
        cases hb
      | _ => rw [ty_int] at ha; cases ha
    · rw [ty_int, ty_bool]
      cases d <;> rfl
def spSlotL : Sp := fun vs H Q _ => ∃ v d, vs = [v] ∧ Da H v d ∧ Ret (.bl (isIn d 0 2)) H Q
theorem ok_slot (T : TChk K w.params mg) : Ok P w K mg base CX0 2 "_law_is_slot" ["value"] spSlotL := by
  have G__law_between : Ok P w K mg base CX0 1 "_law_between" ["value", "low", "high"] spWithin := ok_between T
  refine T.d_slot.ok sc__law_is_slot bi__law_is_slot (fun vs H Q E h => ?_) (fun cdv A outer s H f vs Q E hr h => ?_)
  · obtain ⟨v, d, rfl, _⟩ := h
    rfl
  · obtain ⟨v, d, rfl, hd, q⟩ := h
    refine ⟨_, (pss_one (ps_ret (pe_callO G__law_between (hr.mono (by decide)) (pa_cons (pv 0) (pa_cons pe_int (pa_cons pe_int pa_nil)))))), ?_⟩
    exact s_ret (sv_ret (fun H1 e Q q => ⟨v, d, 0, 2, rfl, hd.ex e, q⟩) (ea_cons (ev_var rfl) (ea_cons ev_c (ea_cons ev_c ea_nil)))) q
def spFieldL : Sp := fun vs H Q _ => ∃ (hd : Addr) (fs : List Int) (u f : V) (du df : PyData), vs = [.ref hd, u, f] ∧ H hd = some (.lst (fs.map V.int)) ∧ Da H u du ∧ Da H f df ∧ Ret (.bl (lawFld fs du df)) H Q
theorem ok_field (T : TChk K w.params mg) : Ok P w K mg base CX0 2 "_law_is_field" ["heads", "unit", "field"] spFieldL := by
  have G__law_between : Ok P w K mg base CX0 1 "_law_between" ["value", "low", "high"] spWithin := ok_between T
  refine T.d_field.ok sc__law_is_field bi__law_is_field (fun vs H Q E h => ?_) (fun cdv A outer s H f vs Q E hr h => ?_)
  · obtain ⟨hd, fs, u, f, du, df, rfl, _⟩ := h
    rfl
  · obtain ⟨hd, fs, u, fv, du, df, rfl, hh, hu, hf, q⟩ := h
    refine ⟨_, (pss_one (ps_ret (pe_and (pe_callO G__law_between (hr.mono (by decide)) (pa_cons (pv 1) (pa_cons pe_int (pa_cons (pe_op op_sub (pe_callB call_len_seq (by rfl) T.b_len (by decide +kernel) (pa_cons (pv 0) pa_nil)) pe_int) pa_nil)))) (pe_one (pe_callO G__law_between (hr.mono (by decide)) (pa_cons (pv 2) (pa_cons pe_int (pa_cons (pe_op op_sub (pe_ix ix_list (pv 0) (pv 1) (fun _ _ => rfl)) pe_int) pa_nil)))))))), ?_⟩
    refine s_ret (ev_andV (a := isIn du 0 ((fs.length : Int) - 1)) (b := fldv fs du df) (sv_ret (z := .bl (isIn du 0 ((fs.length : Int) - 1))) (fun H1 e Q q => ⟨u, du, 0, (fs.length : Int) - 1, rfl, hu.ex e, q⟩) (ea_cons (ev_var rfl) (ea_cons ev_c (ea_cons (ev_is (ev_op (ev_lenL (ev_var rfl) (sl_of hh)) ev_c rv_I0) (by rw [List.length_map])) ea_nil)))) fun hb => ?_) q
    obtain ⟨i, rfl, i0, i1⟩ := isIn_int hb
    cases hu
    obtain ⟨n, rfl⟩ := Int.eq_ofNat_of_zero_le i0
    have hz : (fs.map V.int)[n]? = some (.int (fs.getD n 0)) := by
      rw [List.getElem?_map, List.getD_eq_getElem?_getD, List.getElem?_eq_getElem (by omega)]
      rfl
    exact sv_ret (z := .bl (isIn df 0 (fs.getD (n : Int).toNat 0 - 1))) (fun H1 e Q q => ⟨fv, df, 0, fs.getD n 0 - 1, rfl, hf.ex e, q⟩) (ea_cons (ev_var rfl) (ea_cons ev_c (ea_cons (ev_op (ev_op (ev_var rfl) (ev_var rfl) (Evl.rv_ixL (sl_of hh) (atI_nat hz))) ev_c rv_I0) ea_nil)))
/-- t[1:], t a datum -/
theorem ev_rest {te tb : TE} {σ : L2.St} {H : Hp} {a : Addr} {x : V} {xs : List V} (h : Ev te σ H (.ref a)) (h1 : Ev tb σ H (.int 1)) (ha : H a = some (.tup (x :: xs))) : EvU (tSl (rSlA K) te (tPart tb) tNoPart) σ H xs := fun H1 e Q q =>
  h H1 e _ fun H2 e2 => show tPart tb σ H2 (fun l H3 => rSlA K (.ref a) l none H3 Q) from Evl.eo_some h1 H2 (e.trans e2) _ fun H3 e3 => by
    have cut : cutV (x :: xs) (some (1 : Int)) none = xs := by
      unfold cutV
      rw [HT.sIx_none, show HT.sIx (x :: xs).length 0 (some (1 : Int)) = min 1 (x :: xs).length from HT.sIx_nat _ _ 1, List.length_cons, Nat.min_eq_left (by omega)]
      show (xs.take (xs.length + 1 - 1)) = xs
      rw [Nat.add_sub_cancel, List.take_length]
    refine ⟨a, x :: xs, rfl, st_of (e3 _ _ (e2 _ _ (e _ _ ha))), fun w => ?_, fun w t nt => ?_⟩
    · rw [show HT.sIx (x :: xs).length 0 (some (1 : Int)) = min 1 (x :: xs).length from HT.sIx_nat _ _ 1, List.length_cons, Nat.min_eq_left (by omega)] at w
      exact absurd w.1 (by decide)
    · rw [cut]
      exact q t _ (by
        cases z : H1 t with
        | none => rfl
        | some o =>
          rw [e3 _ _ (e2 _ _ z)] at nt
          cases nt) ((e2.trans e3).trans (Ex.new nt)) upd_same
theorem inV2 {w a b : Str} : inV (.str w) [.str a, .str b] = decide (w = a ∨ w = b) := by
  show ((a == w) || ((b == w) || false)) = _
  by_cases h1 : w = a
  · subst h1
    simp
  · by_cases h2 : w = b
    · subst h2
      simp
    · have e1 : (a == w) = false := beq_eq_false_iff_ne.mpr fun z => h1 z.symm
      have e2 : (b == w) = false := beq_eq_false_iff_ne.mpr fun z => h2 z.symm
      rw [e1, e2, decide_eq_false (not_or.mpr ⟨h1, h2⟩)]
      rfl
theorem dec_str {w a : Str} : decide (V.str w = V.str a) = decide (w = a) := by
  by_cases h : w = a
  · subst h
    simp
  · rw [decide_eq_false h, decide_eq_false (fun z => h (V.str.inj z))]
theorem dec_len {n k : Nat} : decide (V.int (n : Int) = V.int (k : Int)) = decide (n = k) := by
  by_cases h : n = k
  · subst h
    simp
  · rw [decide_eq_false h, decide_eq_false (fun z => h (by have := V.int.inj z; omega))]
theorem ev_lenIs {te : TE} {σ : L2.St} {H : Hp} {a : Addr} {xs : List V} {n : Nat} (k : Nat) (h : Ev te σ H (.ref a)) (ha : H a = some (.tup xs)) (hn : xs.length = n) :
    Ev (tOp rEq (tCB (fun xs H Q => ∃ p ys, xs = [.ref p] ∧ (SqL K H p ys ∨ SqT K H p ys) ∧ Q (.int ys.length) H) (tCons te tNil)) (tC (.int (k : Int)))) σ H (.bl (decide (n = k))) :=
  ev_is (ev_op (ev_lenT h (st_of ha)) ev_c (rv_eq rfl)) (by rw [hn]; exact congrArg V.bl dec_len)
theorem ev_empty {te : TE} {σ : L2.St} {H : Hp} {a : Addr} {xs : List V} {n : Nat} (h : Ev te σ H (.ref a)) (ha : H a = some (.tup xs)) (hn : xs.length = n) : Ev (tOp (rEqE K) te (tTup tNil)) σ H (.bl (decide (n = 0))) := by
  subst hn
  exact Evl.ev_opU h (Evl.eu_tup ea_nil (by show 0 ≤ 100000; decide)) fun t H1 ht e => fun H2 e2 Q q => ⟨a, t, xs, rfl, rfl, st_of (e2 _ _ (e _ _ ha)), st_of (e2 _ _ ht), q H2 (Ex.refl _)⟩
def spOneL : Sp := fun vs H Q _ => ∃ (hd wh : Addr) (fs : List Int) (v vn : V) (d : PyData) (num : Option (Int × Int)) (pl : Int) (sz : Nat), vs = [.ref hd, v, vn, .ref wh] ∧ H hd = some (.lst (fs.map V.int)) ∧ Da H v d ∧
  (vn = .non ∧ num = none ∨ ∃ nt own nf, vn = .ref nt ∧ H nt = some (.tup [.int own, .int nf]) ∧ num = some (own, nf)) ∧ H wh = some (.tup [.int pl, .int (sz : Nat)]) ∧ Ret (.bl (okIns num.isSome (lmsOf fs num pl sz) fs d)) H Q
theorem ok_one (T : TChk K w.params mg) : Ok P w K mg base CX0 3 "_law_is_one" ["heads", "value", "number", "where"] spOneL := by
  have G__law_between : Ok P w K mg base CX0 1 "_law_between" ["value", "low", "high"] spWithin := ok_between T
  have G__law_is_slot : Ok P w K mg base CX0 2 "_law_is_slot" ["value"] spSlotL := ok_slot T
  have G__law_is_field : Ok P w K mg base CX0 2 "_law_is_field" ["heads", "unit", "field"] spFieldL := ok_field T
  refine T.d_one.ok sc__law_is_one bi__law_is_one (fun vs H Q E h => ?_) (fun cdv A outer s H f vs Q E hr h => ?_)
  · obtain ⟨hd, wh, fs, v, vn, d, num, pl, sz, rfl, _⟩ := h
    rfl
  · obtain ⟨hd, wh, fs, v, vn, d, num, pl, sz, rfl, hh, hv, hnum, hwh, q⟩ := h
    rw [← lawOne_eq] at q
    refine ⟨_, (pss_cons (ps_if (PW.pt (pw_or (pt_not (pt_val (pe_callB call_isi (by rfl) T.b_isinstance (by decide +kernel) (pa_cons (pv 1) (pa_cons (pe_bltn (by rfl) T.b_tuple (by decide +kernel) (v := .ty "tuple") rfl) pa_nil))))) (pw_or (pt_cmpR (op_eqE (hu1 hr)) (pv 1) (pe_tup pa_nil) (nomark _)) (pw_or1 (pt_not (pt_val (pe_callB call_isi (by rfl) T.b_isinstance (by decide +kernel) (pa_cons (pe_ix ix_tup (pv 1) pe_int (fun _ _ => rfl)) (pa_cons (pe_bltn (by rfl) T.b_str (by decide +kernel) (v := .ty "str") rfl) pa_nil))))))))) (pss_one (ps_ret pe_bl)) pss_nil)
    (pss_cons (ps_par (i := 4) (j := 5) (by rfl) sc__law_is_one.nd rfl rfl (by decide) rfl rfl (pa_cons (pe_ix ix_tup (pv 1) pe_int (fun _ _ => rfl)) (pa_cons (pe_slice sl_tupA (pv 1) (po_some pe_int) po_none) pa_nil)) (by rfl))
    (pss_cons (ps_if (pt_cmpR op_in_seq (pv 4) (pe_tup (pa_cons pe_str (pa_cons pe_str pa_nil))) (by rfl)) (pss_one (ps_ret (pe_and (pe_cmpR op_eq (pe_callB call_len_seq (by rfl) T.b_len (by decide +kernel) (pa_cons (pv 5) pa_nil)) pe_int (nomark _)) (pe_and (pe_callO G__law_is_slot (hr.mono (by decide)) (pa_cons (pe_ix ix_tup (pv 5) pe_int (fun _ _ => rfl)) pa_nil)) (pe_one (pe_callO G__law_between (hr.mono (by decide)) (pa_cons (pe_ix ix_tup (pv 5) pe_int (fun _ _ => rfl)) (pa_cons pe_int (pa_cons pe_int pa_nil))))))))) pss_nil)
    (pss_cons (ps_if (pt_cmpR op_eq (pv 4) pe_str (nomark _)) (pss_one (ps_ret (pe_and (pe_cmpR op_eq (pe_callB call_len_seq (by rfl) T.b_len (by decide +kernel) (pa_cons (pv 5) pa_nil)) pe_int (nomark _)) (pe_and (pe_callO G__law_is_slot (hr.mono (by decide)) (pa_cons (pe_ix ix_tup (pv 5) pe_int (fun _ _ => rfl)) pa_nil)) (pe_one (pe_callO G__law_is_slot (hr.mono (by decide)) (pa_cons (pe_ix ix_tup (pv 5) pe_int (fun _ _ => rfl)) pa_nil))))))) pss_nil)
    (pss_cons (ps_if (pt_cmpR op_eq (pv 4) pe_str (nomark _)) (pss_one (ps_ret (pe_and (pe_cmpR op_eq (pe_callB call_len_seq (by rfl) T.b_len (by decide +kernel) (pa_cons (pv 5) pa_nil)) pe_int (nomark _)) (pe_and (pe_callO G__law_is_slot (hr.mono (by decide)) (pa_cons (pe_ix ix_tup (pv 5) pe_int (fun _ _ => rfl)) pa_nil)) (pe_one (pe_callO G__law_is_field (hr.mono (by decide)) (pa_cons (pv 0) (pa_cons (pe_ix ix_tup (pv 5) pe_int (fun _ _ => rfl)) (pa_cons (pe_ix ix_tup (pv 5) pe_int (fun _ _ => rfl)) pa_nil))))))))) pss_nil)
    (pss_cons (ps_if (pt_cmpR op_eq (pv 4) pe_str (nomark _)) (pss_one (ps_ret (pe_and (pe_cmpR op_eq (pe_callB call_len_seq (by rfl) T.b_len (by decide +kernel) (pa_cons (pv 5) pa_nil)) pe_int (nomark _)) (pe_and (pe_callO G__law_is_field (hr.mono (by decide)) (pa_cons (pv 0) (pa_cons (pe_ix ix_tup (pv 5) pe_int (fun _ _ => rfl)) (pa_cons (pe_ix ix_tup (pv 5) pe_int (fun _ _ => rfl)) pa_nil)))) (pe_one (pe_callO G__law_is_slot (hr.mono (by decide)) (pa_cons (pe_ix ix_tup (pv 5) pe_int (fun _ _ => rfl)) pa_nil))))))) pss_nil)
    (pss_cons (ps_if (PW.pt (pw_or (pt_cmpR op_eq (pv 4) pe_str (nomark _)) (pw_or1 (pt_cmpR op_isN (pv 2) pe_non (nomark _))))) (pss_one (ps_ret (pe_and (pe_cmpR op_eq (pv 4) pe_str (nomark _)) (pe_one (pe_cmpR (op_eqE (hu1 hr)) (pv 5) (pe_tup pa_nil) (nomark _)))))) pss_nil)
    (pss_cons (ps_if (pt_cmpR op_in_seq (pv 4) (pe_tup (pa_cons pe_str (pa_cons pe_str pa_nil))) (by rfl)) (pss_one (ps_ret (pe_and (pe_cmpR op_eq (pe_callB call_len_seq (by rfl) T.b_len (by decide +kernel) (pa_cons (pv 5) pa_nil)) pe_int (nomark _)) (pe_one (pe_callO G__law_is_slot (hr.mono (by decide)) (pa_cons (pe_ix ix_tup (pv 5) pe_int (fun _ _ => rfl)) pa_nil)))))) pss_nil)
    (pss_cons (ps_if (pt_cmpR op_eq (pv 4) pe_str (nomark _)) (pss_one (ps_ret (pe_and (pe_cmpR op_eq (pe_callB call_len_seq (by rfl) T.b_len (by decide +kernel) (pa_cons (pv 5) pa_nil)) pe_int (nomark _)) (pe_one (pe_callO G__law_between (hr.mono (by decide)) (pa_cons (pe_ix ix_tup (pv 5) pe_int (fun _ _ => rfl)) (pa_cons pe_int (pa_cons (pe_ix ix_tup (pv 3) pe_int (fun _ _ => rfl)) pa_nil)))))))) pss_nil)
    (pss_cons (ps_if (pt_cmpR op_eq (pv 4) pe_str (nomark _)) (pss_one (ps_ret (pe_and (pe_cmpR op_eq (pe_callB call_len_seq (by rfl) T.b_len (by decide +kernel) (pa_cons (pv 5) pa_nil)) pe_int (nomark _)) (pe_one (pe_callO G__law_between (hr.mono (by decide)) (pa_cons (pe_ix ix_tup (pv 5) pe_int (fun _ _ => rfl)) (pa_cons (pe_op op_add (pe_ix ix_tup (pv 2) pe_int (fun _ _ => rfl)) pe_int) (pa_cons (pe_op op_sub (pe_ix ix_tup (pv 2) pe_int (fun _ _ => rfl)) pe_int) pa_nil)))))))) pss_nil)
    (pss_cons (ps_if (PW.pt (pw_or (pt_cmpR op_ne (pv 4) pe_str (nomark _)) (pw_or1 (pt_cmpR op_ne (pe_callB call_len_seq (by rfl) T.b_len (by decide +kernel) (pa_cons (pv 5) pa_nil)) pe_int (nomark _))))) (pss_one (ps_ret pe_bl)) pss_nil)
    (pss_one (ps_ret (pe_and (pe_callO G__law_between (hr.mono (by decide)) (pa_cons (pe_ix ix_tup (pv 5) pe_int (fun _ _ => rfl)) (pa_cons pe_int (pa_cons (pe_op op_sub (pe_callB call_len_seq (by rfl) T.b_len (by decide +kernel) (pa_cons (pv 0) pa_nil)) pe_int) pa_nil)))) (pe_one (pe_callO G__law_between (hr.mono (by decide)) (pa_cons (pe_ix ix_tup (pv 5) pe_int (fun _ _ => rfl)) (pa_cons (pe_op op_add (pe_ix ix_tup (pv 3) pe_int (fun _ _ => rfl)) pe_int) (pa_cons (pe_ix ix_tup (pv 3) pe_int (fun _ _ => rfl)) pa_nil))))))))))))))))))), ?_⟩
    refine q_when (b := match d with | .tuple (.str _ :: _) => false | _ => true) ?_ (fun hb H1 x1 => ?_) (fun hb H1 x1 => ?_)
    · by_cases ht : isTy d "tuple" = true
      · rw [ty_tuple] at ht
        cases hv with
        | @tup a xs ds h1 h2 =>
          cases h2 with
          | nil => exact et_is (et_or (a := false) (b := true) (et_is (et_not (et_test (ev_isi (ev_var rfl) (.tup h1 .nil) (.inr (.inr (.inr (.inl rfl))))))) (by rw [ty_tuple]; rfl)) fun _ =>
              et_is (et_or (a := true) (b := true) (et_test (Evl.ev_opU (ev_var rfl) (Evl.eu_tup ea_nil (by show 0 ≤ 100000; decide)) fun t H1 ht e => fun H2 e2 Q q => ⟨a, t, [], rfl, rfl, st_of (e2 _ _ (e _ _ h1)), st_of (e2 _ _ ht), q H2 (Ex.refl _)⟩)) fun z => by cases z) rfl) rfl
          | @cons x xs' dx ds' k1 k2 =>
            exact et_is (et_or (a := false) (b := !isTy dx "str") (et_is (et_not (et_test (ev_isi (ev_var rfl) (.tup h1 (.cons k1 k2)) (.inr (.inr (.inr (.inl rfl))))))) (by rw [ty_tuple]; rfl)) fun _ =>
              et_is (et_or (a := false) (b := !isTy dx "str") (et_is (et_test (ev_empty (K := K) (ev_var rfl) h1 rfl)) rfl) fun _ => et_not (et_test (ev_isi (ev_op (ev_var rfl) ev_c (rv_ixT (st_of h1) (atI_nat (j := 0) rfl))) k1 (.inr (.inr (.inl rfl)))))) rfl) (by rw [ty_str]; cases dx <;> rfl)
        | _ => cases ht
      · have hf : isTy d "tuple" = false := by simpa using ht
        refine et_is (et_or (a := !isTy d "tuple") (b := false) (et_not (et_test (ev_isi (ev_var rfl) hv (.inr (.inr (.inr (.inl rfl))))))) fun z => ?_) ?_
        · rw [hf] at z
          cases z
        · rw [hf]
          rw [ty_tuple] at hf
          cases d with
          | tuple ds => cases hf
          | _ => rfl
    · have e : lawOne fs num pl (sz : Int) d = false := by
        unfold lawOne
        split
        · cases hb
        · rfl
      rw [e] at q
      exact s_ret ev_c fun H2 x2 => q H2 (x1.trans x2)
    · obtain ⟨w', rs, rfl⟩ : ∃ w' rs, d = .tuple (.str w' :: rs) := by
        split at hb
        · exact ⟨_, _, rfl⟩
        · cases hb
      obtain ⟨a, xs, rfl, ha, hds⟩ := Da.tupl (hv.ex x1)
      cases hds with
      | @cons x xs' _ _ k1 k2 =>
      cases k1
      refine ⟨_, rfl, a, _, 0, .str w', rfl, rfl, st_of ha, atI_nat (j := 0) rfl, ?_⟩
      refine (ev_rest (K := K) (ev_var rfl) ev_c ha) H1 (Ex.refl _) _ fun ra H2 nra x2 hra => ?_
      refine ⟨_, _, rfl, ?_⟩
      have x12 := x1.trans x2
      have hh2 := x12 _ _ hh
      have hwh2 := x12 _ _ hwh
      have k2' := k2.ex x2
      have lr := k2'.len
      replace q : ∀ {H3 : Hp}, Ex H2 H3 → Q (.bl (lawIns fs num pl (sz : Int) w' rs)) H3 := fun e => q _ (x12.trans e)
      have R : ∀ {H3 : Hp} (k : Nat), Ex H2 H3 → k < rs.length → ∃ vk, Ev (tOp (rIxT K) (tVar 5) (tC (.int (k : Int)))) [some (.ref hd), some (.ref a), some vn, some (.ref wh), some (.str w'), some (.ref ra)] H3 vk ∧ Da H3 vk (rs.getD k .none) := by
        intro H3 k e hk
        obtain ⟨vk, h1, h2⟩ := (k2'.ex e).of (List.getElem?_eq_getElem hk)
        refine ⟨vk, ev_op (ev_var rfl) ev_c (rv_ixT (st_of (e _ _ hra)) (atI_nat h1)), ?_⟩
        rw [getD_at (List.getElem?_eq_getElem hk)]
        exact h2
      -- a slot, a field
      have S : ∀ {H3 : Hp} (k : Nat), Ex H2 H3 → k < rs.length → Ev (tCall spSlotL [] E0 (tCons (tOp (rIxT K) (tVar 5) (tC (.int (k : Int)))) tNil)) [some (.ref hd), some (.ref a), some vn, some (.ref wh), some (.str w'), some (.ref ra)] H3 (.bl (isIn (rs.getD k .none) 0 2)) := by
        intro H3 k e hk
        obtain ⟨vk, h1, h2⟩ := R k e hk
        exact sv_ret (fun H4 e4 Q q => ⟨vk, _, rfl, h2.ex e4, q⟩) (ea_cons h1 ea_nil)
      have B : ∀ {H3 : Hp} {tl th : TE} {lo hi : Int} (k : Nat), Ex H2 H3 → k < rs.length → Ev tl [some (.ref hd), some (.ref a), some vn, some (.ref wh), some (.str w'), some (.ref ra)] H3 (.int lo) → Ev th [some (.ref hd), some (.ref a), some vn, some (.ref wh), some (.str w'), some (.ref ra)] H3 (.int hi) →
          Ev (tCall spWithin [] E0 (tCons (tOp (rIxT K) (tVar 5) (tC (.int (k : Int)))) (tCons tl (tCons th tNil)))) [some (.ref hd), some (.ref a), some vn, some (.ref wh), some (.str w'), some (.ref ra)] H3 (.bl (isIn (rs.getD k .none) lo hi)) := by
        intro H3 tl th lo hi k e hk h3 h4
        obtain ⟨vk, h1, h2⟩ := R k e hk
        exact sv_ret (fun H4 e4 Q q => ⟨vk, _, lo, hi, rfl, h2.ex e4, q⟩) (ea_cons h1 (ea_cons h3 (ea_cons h4 ea_nil)))
      have F : ∀ {H3 : Hp} (k l : Nat), Ex H2 H3 → k < rs.length → l < rs.length → Ev (tCall spFieldL [] E0 (tCons (tVar 0) (tCons (tOp (rIxT K) (tVar 5) (tC (.int (k : Int)))) (tCons (tOp (rIxT K) (tVar 5) (tC (.int (l : Int)))) tNil)))) [some (.ref hd), some (.ref a), some vn, some (.ref wh), some (.str w'), some (.ref ra)] H3 (.bl (lawFld fs (rs.getD k .none) (rs.getD l .none))) := by
        intro H3 k l e hk hl
        obtain ⟨vk, h1, h2⟩ := R k e hk
        obtain ⟨vl, h3, h4⟩ := R l e hl
        exact sv_ret (fun H4 e4 Q q => ⟨hd, fs, vk, vl, _, _, rfl, e4 _ _ (e _ _ hh2), h2.ex e4, h4.ex e4, q⟩) (ea_cons (ev_var rfl) (ea_cons h1 (ea_cons h3 ea_nil)))
      have L : ∀ {H3 : Hp} (k : Nat), Ex H2 H3 → Ev (tOp rEq (tCB (fun xs H Q => ∃ p ys, xs = [.ref p] ∧ (SqL K H p ys ∨ SqT K H p ys) ∧ Q (.int ys.length) H) (tCons (tVar 5) tNil)) (tC (.int (k : Int)))) [some (.ref hd), some (.ref a), some vn, some (.ref wh), some (.str w'), some (.ref ra)] H3 (.bl (decide (rs.length = k))) :=
        fun k e => ev_lenIs k (ev_var rfl) (e _ _ hra) lr
      have two : ∀ {k : Nat} {j : Nat}, decide (rs.length = k) = true → j < k → j < rs.length := fun h hj => by
        have := of_decide_eq_true h
        omega
      have e0 : ∀ {b : Bool}, b = lawIns fs num pl (sz : Int) w' rs → ∀ {H3 : Hp}, Ex H2 H3 → Q (.bl b) H3 := fun h => by
        rw [h]
        exact q
      unfold lawIns at e0
      dsimp only at e0
      show tSeq _ _ _ _ _
      refine q_when (b := decide (w' = "number" ∨ w' = "add")) (et_is (et_test (Evl.ev_inU (ev_var rfl) (Evl.eu_tup (ea_cons ev_c (ea_cons ev_c ea_nil)) (by show 2 ≤ 100000; decide)) rfl rfl)) inV2) (fun hb H3 x3 => ?_) (fun hb H3 x3 => ?_)
      · rw [if_pos (of_decide_eq_true hb)] at e0
        exact s_ret (ev_andV (L 2 x3) fun h => ev_andV (S 0 x3 (two h (by decide))) fun _ => B 1 x3 (two h (by decide)) ev_c ev_c) fun H4 x4 => e0 rfl (x3.trans x4)
      rw [if_neg (of_decide_eq_false hb)] at e0
      refine q_when (b := decide (w' = "copy")) (et_is (et_test (ev_op (ev_var rfl) ev_c (rv_eq rfl))) dec_str) (fun hb H4 x4 => ?_) (fun hb H4 x4 => ?_)
      · rw [if_pos (of_decide_eq_true hb)] at e0
        have x := x3.trans x4
        exact s_ret (ev_andV (L 2 x) fun h => ev_andV (S 0 x (two h (by decide))) fun _ => S 1 x (two h (by decide))) fun H4 x4 => e0 rfl (x.trans x4)
      rw [if_neg (of_decide_eq_false hb)] at e0
      replace x3 := x3.trans x4
      refine q_when (b := decide (w' = "read")) (et_is (et_test (ev_op (ev_var rfl) ev_c (rv_eq rfl))) dec_str) (fun hb H4 x4 => ?_) (fun hb H4 x4 => ?_)
      · rw [if_pos (of_decide_eq_true hb)] at e0
        have x := x3.trans x4
        exact s_ret (ev_andV (L 3 x) fun h => ev_andV (S 0 x (two h (by decide))) fun _ => F 1 2 x (two h (by decide)) (two h (by decide))) fun H4 x4 => e0 rfl (x.trans x4)
      rw [if_neg (of_decide_eq_false hb)] at e0
      replace x3 := x3.trans x4
      refine q_when (b := decide (w' = "write")) (et_is (et_test (ev_op (ev_var rfl) ev_c (rv_eq rfl))) dec_str) (fun hb H4 x4 => ?_) (fun hb H4 x4 => ?_)
      · rw [if_pos (of_decide_eq_true hb)] at e0
        have x := x3.trans x4
        exact s_ret (ev_andV (L 3 x) fun h => ev_andV (F 0 1 x (two h (by decide)) (two h (by decide))) fun _ => S 2 x (two h (by decide))) fun H4 x4 => e0 rfl (x.trans x4)
      rw [if_neg (of_decide_eq_false hb)] at e0
      replace x3 := x3.trans x4
      have nn : decide (vn = .non) = num.isNone := by
        rcases hnum with ⟨rfl, rfl⟩ | ⟨nt, own, nf, rfl, _, rfl⟩
        · exact decide_eq_true rfl
        · exact decide_eq_false (fun z => by cases z)
      have EM : ∀ {H3 : Hp}, Ex H2 H3 → Ev (tOp (rEqE K) (tVar 5) (tTup tNil)) [some (.ref hd), some (.ref a), some vn, some (.ref wh), some (.str w'), some (.ref ra)] H3 (.bl (decide (rs.length = 0))) := fun e => ev_empty (ev_var rfl) (e _ _ hra) lr
      refine q_when (b := decide (w' = "fail") || num.isNone) (et_or (a := decide (w' = "fail")) (et_is (et_test (ev_op (ev_var rfl) ev_c (rv_eq rfl))) dec_str) fun _ => et_is (et_test (ev_op (ev_var rfl) ev_c rv_isN)) nn) (fun hb H4 x4 => ?_) (fun hb H4 x4 => ?_)
      · have x := x3.trans x4
        refine s_ret (ev_andV (a := decide (w' = "fail")) (ev_is (ev_op (ev_var rfl) ev_c (rv_eq rfl)) (congrArg V.bl dec_str)) fun _ => EM x) fun H4 x4 => e0 ?_ (x.trans x4)
        cases num with
        | none => rfl
        | some on =>
          obtain ⟨own, nf⟩ := on
          have hf : w' = "fail" := by
            rw [show (some (own, nf)).isNone = false from rfl, Bool.or_false] at hb
            exact of_decide_eq_true hb
          dsimp only
          rw [if_pos hf, decide_eq_true hf, Bool.true_and]
      obtain ⟨hb1, hb2⟩ := Bool.or_eq_false_iff.mp hb
      rcases hnum with ⟨rfl, rfl⟩ | ⟨nt, own, nf, rfl, hnt, rfl⟩
      · cases hb2
      dsimp only at e0
      rw [if_neg (of_decide_eq_false hb1)] at e0
      replace x3 := x3.trans x4
      have hnt2 := x12 _ _ hnt
      refine q_when (b := decide (w' = "input" ∨ w' = "show")) (et_is (et_test (Evl.ev_inU (ev_var rfl) (Evl.eu_tup (ea_cons ev_c (ea_cons ev_c ea_nil)) (by show 2 ≤ 100000; decide)) rfl rfl)) inV2) (fun hb H4 x4 => ?_) (fun hb H4 x4 => ?_)
      · rw [if_pos (of_decide_eq_true hb)] at e0
        have x := x3.trans x4
        exact s_ret (ev_andV (L 1 x) fun h => S 0 x (two h (by decide))) fun H4 x4 => e0 rfl (x.trans x4)
      rw [if_neg (of_decide_eq_false hb)] at e0
      replace x3 := x3.trans x4
      refine q_when (b := decide (w' = "branch")) (et_is (et_test (ev_op (ev_var rfl) ev_c (rv_eq rfl))) dec_str) (fun hb H4 x4 => ?_) (fun hb H4 x4 => ?_)
      · rw [if_pos (of_decide_eq_true hb)] at e0
        have x := x3.trans x4
        exact s_ret (ev_andV (L 1 x) fun h => B 0 x (two h (by decide)) ev_c (ev_op (ev_var rfl) ev_c (rv_ixT (st_of (x _ _ hwh2)) (atI_nat (j := 1) rfl)))) fun H4 x4 => e0 rfl (x.trans x4)
      rw [if_neg (of_decide_eq_false hb)] at e0
      replace x3 := x3.trans x4
      refine q_when (b := decide (w' = "call")) (et_is (et_test (ev_op (ev_var rfl) ev_c (rv_eq rfl))) dec_str) (fun hb H4 x4 => ?_) (fun hb H4 x4 => ?_)
      · rw [if_pos (of_decide_eq_true hb)] at e0
        have x := x3.trans x4
        exact s_ret (ev_andV (L 1 x) fun h => B 0 x (two h (by decide)) (ev_op (ev_op (ev_var rfl) ev_c (rv_ixT (st_of (x _ _ hnt2)) (atI_nat (j := 0) rfl))) ev_c rv_I0) (ev_op (ev_op (ev_var rfl) ev_c (rv_ixT (st_of (x _ _ hnt2)) (atI_nat (j := 1) rfl))) ev_c rv_I0)) fun H4 x4 => e0 rfl (x.trans x4)
      rw [if_neg (of_decide_eq_false hb)] at e0
      replace x3 := x3.trans x4
      refine q_when (b := !decide (w' = "wake") || !decide (rs.length = 2)) (et_or (a := !decide (w' = "wake")) (et_is (et_test (ev_op (ev_var rfl) ev_c (rv_ne rfl))) (by rw [dec_str])) fun _ => et_is (et_test (ev_op (ev_lenT (K := K) (ev_var rfl) (st_of (x3 _ _ hra))) ev_c (rv_ne rfl))) (by rw [lr]; exact congrArg (fun b => !b) (dec_len (k := 2)))) (fun hb H4 x4 => ?_) (fun hb H4 x4 => ?_)
      · have x := x3.trans x4
        refine s_ret ev_c fun H4 x4 => e0 ?_ (x.trans x4)
        split
        · rename_i hw
          rw [decide_eq_true hw] at hb
          have hl : decide (rs.length = 2) = false := by simpa using hb
          rw [hl]
          rfl
        · rfl
      · have x := x3.trans x4
        have hw : w' = "wake" := by
          by_cases z : w' = "wake"
          · exact z
          · rw [decide_eq_false z] at hb
            cases hb
        have hl : decide (rs.length = 2) = true := by
          cases z : decide (rs.length = 2) with
          | true => rfl
          | false =>
            rw [z, Bool.not_false, Bool.or_true] at hb
            cases hb
        rw [if_pos hw, hl, Bool.true_and] at e0
        refine s_ret (ev_andV (B 0 x (two hl (by decide)) ev_c (ev_is (ev_op (ev_lenL (K := K) (ev_var rfl) (sl_of (x _ _ hh2))) ev_c rv_I0) (by rw [List.length_map]))) fun _ => B 1 x (two hl (by decide)) (ev_op (ev_op (ev_var rfl) ev_c (rv_ixT (st_of (x _ _ hwh2)) (atI_nat (j := 0) rfl))) ev_c rv_I0) (ev_op (ev_var rfl) ev_c (rv_ixT (st_of (x _ _ hwh2)) (atI_nat (j := 1) rfl)))) fun H4 x4 => e0 rfl (x.trans x4)
end
end FW
set_option Elab.async false
set_option linter.all false
set_option maxRecDepth 100000
set_option maxHeartbeats 4000000
namespace FW
open PySem PySem.Spec PyProof.Rows L2
open Evl (pss_cut tCut)
open Evl (Ex Ev EvT EvA EvL EvU RC RV fresh_back ev_var ev_c ea_nil ea_cons ev_cb ev_op ev_is ev_andV ev_orV ev_notV et_test et_B et_and et_or et_not et_is s_ret s_when q_when q_asg q_asgL q_asgU rv_I0 rv_eq rv_ne rv_ixT rv_ixL)
def lawUnit (i : Int) (u : PyData) : Bool := match u with
  | .tuple [p, f, .tuple is] => decide (is.length ≤ 6) && ((isNonD p || isIn p 0 (i - 1)) && isIn f 0 3)
  | _ => false
def lawUnits (d : PyData) : Bool := match d with
  | .tuple us => decide (1 ≤ us.length) && decide (us.length ≤ 6) && (List.range us.length).all fun i => lawUnit (i : Nat) (us.getD i .none)
  | _ => false
def lawFun (nu : Int) (u : PyData) : Bool := match u with
  | .tuple [o, .tuple bs] => isIn o 0 (nu - 1) && (decide (1 ≤ bs.length) && decide (bs.length ≤ 8))
  | _ => false
def lawFuns (nu : Int) (d : PyData) : Bool := match d with
  | .tuple fs => decide (1 ≤ fs.length) && decide (fs.length ≤ 4) && (List.range fs.length).all fun i => lawFun nu (fs.getD i .none)
  | _ => false
section
variable {P : Program} {w : World} {K : PySem.W.Frag} {mg : Str → Option Value} {base : Heap}
theorem rv_notN {H : Hp} {x : V} : RV (fun x y H Q => y = .non ∧ Q (.bl (!decide (x = .non))) H) x .non H (.bl (!decide (x = .non))) := fun H1 _ _ q => ⟨rfl, q H1 (Evl.Ex.refl _)⟩
def tupOr (g : List PyData → Bool) (d : PyData) : Bool := match d with
  | .tuple ds => g ds
  | _ => true
theorem et_notTup {σ : L2.St} {H : Hp} {te : TE} {v : V} {d : PyData} {t2 : TT} {g : List PyData → Bool} (h0 : Ev te σ H v) (hd : Da H v d) (h : ∀ a xs ds, d = .tuple ds → v = .ref a → H a = some (.tup xs) → DaAll H xs ds → EvT t2 σ H (g ds)) :
    EvT (tOr (tNot (tB (tCB (rIsi K) (tCons te (tCons (tC (.ty "tuple")) tNil))))) t2) σ H (tupOr g d) := by
  by_cases ht : isTy d "tuple" = true
  · rw [ty_tuple] at ht
    cases hd with
    | @tup a xs ds h1 h2 => exact et_or (a := false) (et_is (et_not (et_B (ev_isi h0 (.tup h1 h2) (.inr (.inr (.inr (.inl rfl))))))) (by rw [ty_tuple]; rfl)) fun _ => h a xs ds rfl rfl h1 h2
    | _ => cases ht
  · have hf : isTy d "tuple" = false := by simpa using ht
    refine et_is (et_or (a := !isTy d "tuple") (b := false) (et_not (et_B (ev_isi h0 hd (.inr (.inr (.inr (.inl rfl))))))) fun z => ?_) ?_
    · rw [hf] at z
      cases z
    · rw [hf]
      rw [ty_tuple] at hf
      cases d with
      | tuple ds => cases hf
      | _ => rfl
theorem ev_between {σ : L2.St} {H : Hp} {te tl th : TE} {v : V} {d : PyData} {lo hi : Int} (h : Ev te σ H v) (hd : Da H v d) (hl : Ev tl σ H (.int lo)) (hh : Ev th σ H (.int hi)) : Ev (tCall spWithin [] E0 (tCons te (tCons tl (tCons th tNil)))) σ H (.bl (isIn d lo hi)) :=
  sv_ret (fun H1 e Q q => ⟨v, d, lo, hi, rfl, hd.ex e, q⟩) (ea_cons h (ea_cons hl (ea_cons hh ea_nil)))
def spLawUnits : Sp := fun vs H Q _ => ∃ v d, vs = [v] ∧ Da H v d ∧ Ret (.bl (lawUnits d)) H Q
theorem ok_law_units (T : TChk K w.params mg) : Ok P w K mg base CX0 2 "_law_are_units" ["value"] spLawUnits := by
  have G__law_between : Ok P w K mg base CX0 1 "_law_between" ["value", "low", "high"] spWithin := ok_between T
  refine T.d_aunits.ok sc__law_are_units bi__law_are_units (fun vs H Q E h => ?_) (fun cdv A outer s H f vs Q E hr h => ?_)
  · obtain ⟨v, d, rfl, _⟩ := h
    rfl
  · obtain ⟨v, d, rfl, hd, q⟩ := h
    refine ⟨_, (pss_cons (ps_if (PW.pt (pw_or (pt_not (pt_val (pe_callB call_isi (by rfl) T.b_isinstance (by decide +kernel) (pa_cons (pv 0) (pa_cons (pe_bltn (by rfl) T.b_tuple (by decide +kernel) (v := .ty "tuple") rfl) pa_nil))))) (pw_or1 (pt_not (pt_chain op_le op_le pe_int (pe_callB call_len_seq (by rfl) T.b_len (by decide +kernel) (pa_cons (pv 0) pa_nil)) pe_int))))) (pss_one (ps_ret pe_bl)) pss_nil)
    (pss_cons (ps_for PassesOwn.never rfl (pi_enumT (by rfl) T.b_enumerate (pa_cons (pv 0) pa_nil)) (pg_tup rfl (pgs_cons (pg_name (i := 1) sc__law_are_units.nd rfl (Or.inl rfl)) (pgs_cons (pg_name (i := 2) sc__law_are_units.nd rfl (Or.inl rfl)) pgs_nil))) (pss_cons (ps_if (PW.pt (pw_or (pt_not (pt_val (pe_callB call_isi (by rfl) T.b_isinstance (by decide +kernel) (pa_cons (pv 2) (pa_cons (pe_bltn (by rfl) T.b_tuple (by decide +kernel) (v := .ty "tuple") rfl) pa_nil))))) (pw_or (pt_cmpR op_ne (pe_callB call_len_seq (by rfl) T.b_len (by decide +kernel) (pa_cons (pv 2) pa_nil)) pe_int (nomark _)) (pw_or (pt_not (pt_val (pe_callB call_isi (by rfl) T.b_isinstance (by decide +kernel) (pa_cons (pe_ix ix_tup (pv 2) pe_int (fun _ _ => rfl)) (pa_cons (pe_bltn (by rfl) T.b_tuple (by decide +kernel) (v := .ty "tuple") rfl) pa_nil))))) (pw_or1 (pt_cmpR op_gt (pe_callB call_len_seq (by rfl) T.b_len (by decide +kernel) (pa_cons (pe_ix ix_tup (pv 2) pe_int (fun _ _ => rfl)) pa_nil)) pe_int (nomark _))))))) (pss_one (ps_ret pe_bl)) pss_nil)
    (pss_one (ps_if (PW.pt (pw_or (PW.pt (pw_and (pt_cmpR op_notN (pe_ix ix_tup (pv 2) pe_int (fun _ _ => rfl)) pe_non (nomark _)) (pw_and1 (pt_not (pt_val (pe_callO G__law_between (hr.mono (by decide)) (pa_cons (pe_ix ix_tup (pv 2) pe_int (fun _ _ => rfl)) (pa_cons pe_int (pa_cons (pe_op op_sub (pv 1) pe_int) pa_nil))))))))) (pw_or1 (pt_not (pt_val (pe_callO G__law_between (hr.mono (by decide)) (pa_cons (pe_ix ix_tup (pv 2) pe_int (fun _ _ => rfl)) (pa_cons pe_int (pa_cons pe_int pa_nil))))))))) (pss_one (ps_ret pe_bl)) pss_nil))))
    (pss_one (ps_ret pe_bl)))), ?_⟩
    refine q_when (b := tupOr (fun ds => !(decide ((1 : Int) ≤ (ds.length : Int)) && decide ((ds.length : Int) ≤ 6))) d) (et_notTup (K := K) (ev_var rfl) hd fun a xs ds e1 e2 h1 h2 => ?_) (fun hb H1 x1 => ?_) (fun hb H1 x1 => ?_)
    · subst e2
      exact et_is (et_not (et_test (ev_chainLe ev_c (ev_lenT (K := K) (ev_var rfl) (st_of h1)) ev_c))) (by rw [h2.len])
    · have e : lawUnits d = false := by
        cases d with
        | tuple ds =>
          have z : (!(decide ((1 : Int) ≤ (ds.length : Int)) && decide ((ds.length : Int) ≤ 6))) = true := hb
          have z' : ¬ (1 ≤ ds.length ∧ ds.length ≤ 6) := fun h => by
            rw [decide_eq_true (by omega), decide_eq_true (by omega)] at z
            cases z
          show (decide (1 ≤ ds.length) && decide (ds.length ≤ 6) && _) = false
          rw [← Bool.decide_and, decide_eq_false z']
          rfl
        | _ => rfl
      rw [e] at q
      exact s_ret ev_c fun H2 x2 => q H2 (x1.trans x2)
    · obtain ⟨us, rfl, h1, h6⟩ : ∃ us, d = .tuple us ∧ 1 ≤ us.length ∧ us.length ≤ 6 := by
        cases d with
        | tuple ds =>
          have z : (!(decide ((1 : Int) ≤ (ds.length : Int)) && decide ((ds.length : Int) ≤ 6))) = false := hb
          rw [Bool.not_eq_false', Bool.and_eq_true, decide_eq_true_eq, decide_eq_true_eq] at z
          exact ⟨ds, rfl, by omega, by omega⟩
        | _ => cases hb
      obtain ⟨a, xs, rfl, ha, hds⟩ := Da.tupl (hd.ex x1)
      have lx := hds.len
      refine ⟨_, rfl, a, xs, rfl, st_of ha, ?_⟩
      refine for_it walk_enumT (fun i σ H' => ∃ (y1 y2 : Option V), σ = [some (.ref a), y1, y2] ∧ Ex H1 H' ∧ ∀ j, j < i → lawUnit (j : Nat) (us.getD j .none) = true) ⟨none, none, rfl, Ex.refl _, fun j h => by omega⟩ (fun i σ H' _ ⟨_, _, _, e, _⟩ => st_of (e _ _ ha)) ?_ ?_
      · rintro i x σ H' H'' hi ⟨y1, y2, rfl, e1, hall⟩ ⟨T', z1, z2, rfl, nT, rfl, f1, f2⟩
        obtain rfl : z1 = .int (i : Nat) := (Option.some.inj f1).symm
        refine ⟨T', _, rfl, .inl (.inl upd_same), rfl, _, _, rfl, _, _, rfl, rfl, ?_⟩
        have eT := e1.trans (Ex.new nT (o := .tup [V.int (i : Nat), z2]))
        obtain ⟨u, hu, du⟩ := (hds.ex eT).at f2
        generalize upd H' T' (.tup [V.int (i : Nat), z2]) = H3 at eT du ⊢
        have no : lawUnit (i : Nat) u = false → lawUnits (.tuple us) = false := fun z => by
          show (decide (1 ≤ us.length) && decide (us.length ≤ 6) && (List.range us.length).all fun i => lawUnit (i : Nat) (us.getD i .none)) = false
          have : ((List.range us.length).all fun i => lawUnit (i : Nat) (us.getD i .none)) = false := by
            rw [Bool.eq_false_iff]
            intro c
            rw [List.all_eq_true] at c
            have := c i (List.mem_range.mpr (by omega))
            rw [getD_at hu, z] at this
            cases this
          rw [this, Bool.and_false]
        show tSeq _ _ _ _ _
        refine q_when (b := tupOr (fun es => match es with | [_, _, .tuple is] => decide (6 < is.length) | _ => true) u) ?_ (fun hb H4 x4 => ?_) (fun hb H4 x4 => ?_)
        · refine et_notTup (K := K) (ev_var rfl) du fun b bx es ee ev h1 h2 => ?_
          subst ev
          by_cases l3 : (es.length : Int) = 3
          · obtain ⟨p, fz, bd, rfl⟩ := len3 l3
            have lb := h2.len
            refine et_is (et_or (a := false) (b := tupOr (fun is => decide (6 < is.length)) bd) (et_is (et_test (ev_op (ev_lenT (K := K) (ev_var rfl) (st_of h1)) ev_c (rv_ne rfl))) (by rw [lb]; rfl)) fun _ => ?_) (by cases bd <;> rfl)
            obtain ⟨vb, hvb, dvb⟩ := h2.of (i := 2) rfl
            have eb : ∀ {H : Hp}, Ex H3 H → Ev (tOp (rIxT K) (tVar 2) (tC (.int 2))) [some (.ref a), some (.int (i : Nat)), some (.ref b)] H vb := fun e => ev_op (ev_var rfl) ev_c (rv_ixT (st_of (e _ _ h1)) (atI_nat (j := 2) hvb))
            refine et_notTup (K := K) (eb (Ex.refl _)) dvb fun c cx is ec ecv h3 h4 => ?_
            subst ecv
            refine et_is (et_test (ev_op (ev_lenT (K := K) (eb (Ex.refl _)) (st_of h3)) ev_c rv_I0)) ?_
            rw [h4.len]
            show decide ((6 : Int) < (is.length : Int)) = decide (6 < is.length)
            exact decide_eq_decide.mpr (by omega)
          · refine et_is (et_or (a := true) (b := true) (et_is (et_test (ev_op (ev_lenT (K := K) (ev_var rfl) (st_of h1)) ev_c (rv_ne rfl))) ?_) fun z => by cases z) ?_
            · rw [h2.len]
              exact congrArg (fun b => !b) (decide_eq_false fun z => l3 (V.int.inj z))
            · split
              · exact absurd rfl l3
              · rfl
        · refine s_ret ev_c fun H5 x5 => ?_
          have z : lawUnit (i : Nat) u = false := by
            unfold lawUnit
            split
            · rename_i p fz is
              have hb' : decide (6 < is.length) = true := hb
              rw [decide_eq_false (by have := of_decide_eq_true hb'; omega), Bool.false_and]
            · rfl
          rw [no z] at q
          exact q H5 (((x1.trans eT).trans x4).trans x5)
        · obtain ⟨p, fz, is, rfl, hl6⟩ : ∃ p fz is, u = .tuple [p, fz, .tuple is] ∧ is.length ≤ 6 := by
            unfold tupOr at hb
            split at hb
            · dsimp only at hb
              split at hb
              · rename_i p fz is
                exact ⟨p, fz, is, rfl, by have := of_decide_eq_false hb; omega⟩
              · cases hb
            · cases hb
          obtain ⟨b, bx, rfl, hb1, hbx⟩ := Da.tupl (du.ex x4)
          cases hbx with
          | @cons v1 r1 _ _ g1 hbx =>
          cases hbx with
          | @cons v2 r2 _ _ g2 hbx =>
          have i0 : Ev (tOp (rIxT K) (tVar 2) (tC (.int 0))) [some (.ref a), some (.int (i : Nat)), some (.ref b)] H4 v1 := ev_op (ev_var rfl) ev_c (rv_ixT (st_of hb1) (atI_nat (j := 0) rfl))
          have i1 : Ev (tOp (rIxT K) (tVar 2) (tC (.int 1))) [some (.ref a), some (.int (i : Nat)), some (.ref b)] H4 v2 := ev_op (ev_var rfl) ev_c (rv_ixT (st_of hb1) (atI_nat (j := 1) rfl))
          refine s_when (b := (!isNonD p && !isIn p 0 ((i : Int) - 1)) || !isIn fz 0 3) (et_or (et_and (et_is (et_test (ev_op i0 ev_c rv_notN)) (by rw [da_non g1])) fun _ => et_not (et_test (ev_between i0 g1 ev_c (ev_op (ev_var rfl) ev_c rv_I0)))) fun _ => et_not (et_test (ev_between i1 g2 ev_c ev_c))) (fun hb H5 x5 => ?_) (fun hb H5 x5 => ?_)
          · refine s_ret ev_c fun H6 x6 => ?_
            have z : lawUnit (i : Nat) (.tuple [p, fz, .tuple is]) = false := by
              show (decide (is.length ≤ 6) && ((isNonD p || isIn p 0 ((i : Int) - 1)) && isIn fz 0 3)) = false
              rw [decide_eq_true hl6, Bool.true_and]
              revert hb
              cases isNonD p <;> cases isIn p 0 ((i : Int) - 1) <;> cases isIn fz 0 3 <;> simp
            rw [no z] at q
            exact q H6 ((((x1.trans eT).trans x4).trans x5).trans x6)
          · refine ⟨_, _, rfl, (eT.trans x4).trans x5, fun j hj => ?_⟩
            rcases Nat.lt_or_ge j i with h | h
            · exact hall j h
            · obtain rfl : j = i := by omega
              rw [getD_at hu]
              show (decide (is.length ≤ 6) && ((isNonD p || isIn p 0 ((j : Int) - 1)) && isIn fz 0 3)) = true
              rw [decide_eq_true hl6, Bool.true_and]
              revert hb
              cases isNonD p <;> cases isIn p 0 ((j : Int) - 1) <;> cases isIn fz 0 3 <;> simp
      · rintro σ H' ⟨y1, y2, rfl, e1, hall⟩
        have e : lawUnits (.tuple us) = true := by
          show (decide (1 ≤ us.length) && decide (us.length ≤ 6) && (List.range us.length).all fun i => lawUnit (i : Nat) (us.getD i .none)) = true
          rw [decide_eq_true h1, decide_eq_true h6, Bool.true_and, Bool.true_and, List.all_eq_true]
          exact fun j hj => hall j (by have := List.mem_range.mp hj; omega)
        rw [e] at q
        exact q H' (x1.trans e1)
def spLawFuns : Sp := fun vs H Q _ => ∃ (ua : Addr) (v : V) (uxs : List V) (d : PyData), vs = [.ref ua, v] ∧ H ua = some (.tup uxs) ∧ Da H v d ∧ Ret (.bl (lawFuns (uxs.length : Nat) d)) H Q
theorem ok_law_funs (T : TChk K w.params mg) : Ok P w K mg base CX0 2 "_law_are_functions" ["units", "value"] spLawFuns := by
  have G__law_between : Ok P w K mg base CX0 1 "_law_between" ["value", "low", "high"] spWithin := ok_between T
  refine T.d_afuns.ok sc__law_are_functions bi__law_are_functions (fun vs H Q E h => ?_) (fun cdv A outer s H f vs Q E hr h => ?_)
  · obtain ⟨ua, v, uxs, d, rfl, _⟩ := h
    rfl
  · obtain ⟨ua, v, uxs, d, rfl, hua, hd, q⟩ := h
    refine ⟨_, (pss_cons (ps_if (PW.pt (pw_or (pt_not (pt_val (pe_callB call_isi (by rfl) T.b_isinstance (by decide +kernel) (pa_cons (pv 1) (pa_cons (pe_bltn (by rfl) T.b_tuple (by decide +kernel) (v := .ty "tuple") rfl) pa_nil))))) (pw_or1 (pt_not (pt_chain op_le op_le pe_int (pe_callB call_len_seq (by rfl) T.b_len (by decide +kernel) (pa_cons (pv 1) pa_nil)) pe_int))))) (pss_one (ps_ret pe_bl)) pss_nil)
    (pss_cons (ps_for PassesOwn.never rfl (pi_tup (pv 1)) (pg_name (i := 2) sc__law_are_functions.nd rfl (Or.inl rfl)) (pss_cons (ps_if (PW.pt (pw_or (pt_not (pt_val (pe_callB call_isi (by rfl) T.b_isinstance (by decide +kernel) (pa_cons (pv 2) (pa_cons (pe_bltn (by rfl) T.b_tuple (by decide +kernel) (v := .ty "tuple") rfl) pa_nil))))) (pw_or (pt_cmpR op_ne (pe_callB call_len_seq (by rfl) T.b_len (by decide +kernel) (pa_cons (pv 2) pa_nil)) pe_int (nomark _)) (pw_or1 (pt_not (pt_val (pe_callO G__law_between (hr.mono (by decide)) (pa_cons (pe_ix ix_tup (pv 2) pe_int (fun _ _ => rfl)) (pa_cons pe_int (pa_cons (pe_op op_sub (pe_callB call_len_seq (by rfl) T.b_len (by decide +kernel) (pa_cons (pv 0) pa_nil)) pe_int) pa_nil)))))))))) (pss_one (ps_ret pe_bl)) pss_nil)
    (pss_one (ps_if (PW.pt (pw_or (pt_not (pt_val (pe_callB call_isi (by rfl) T.b_isinstance (by decide +kernel) (pa_cons (pe_ix ix_tup (pv 2) pe_int (fun _ _ => rfl)) (pa_cons (pe_bltn (by rfl) T.b_tuple (by decide +kernel) (v := .ty "tuple") rfl) pa_nil))))) (pw_or1 (pt_not (pt_chain op_le op_le pe_int (pe_callB call_len_seq (by rfl) T.b_len (by decide +kernel) (pa_cons (pe_ix ix_tup (pv 2) pe_int (fun _ _ => rfl)) pa_nil)) pe_int))))) (pss_one (ps_ret pe_bl)) pss_nil))))
    (pss_one (ps_ret pe_bl)))), ?_⟩
    refine q_when (b := tupOr (fun ds => !(decide ((1 : Int) ≤ (ds.length : Int)) && decide ((ds.length : Int) ≤ 4))) d) (et_notTup (K := K) (ev_var rfl) hd fun a xs ds e1 e2 h1 h2 => ?_) (fun hb H1 x1 => ?_) (fun hb H1 x1 => ?_)
    · subst e2
      exact et_is (et_not (et_test (ev_chainLe ev_c (ev_lenT (K := K) (ev_var rfl) (st_of h1)) ev_c))) (by rw [h2.len])
    · have e : lawFuns (uxs.length : Nat) d = false := by
        cases d with
        | tuple ds =>
          have z : (!(decide ((1 : Int) ≤ (ds.length : Int)) && decide ((ds.length : Int) ≤ 4))) = true := hb
          have z' : ¬ (1 ≤ ds.length ∧ ds.length ≤ 4) := fun h => by
            rw [decide_eq_true (by omega), decide_eq_true (by omega)] at z
            cases z
          show (decide (1 ≤ ds.length) && decide (ds.length ≤ 4) && _) = false
          rw [← Bool.decide_and, decide_eq_false z']
          rfl
        | _ => rfl
      rw [e] at q
      exact s_ret ev_c fun H2 x2 => q H2 (x1.trans x2)
    · obtain ⟨us, rfl, h1, h6⟩ : ∃ us, d = .tuple us ∧ 1 ≤ us.length ∧ us.length ≤ 4 := by
        cases d with
        | tuple ds =>
          have z : (!(decide ((1 : Int) ≤ (ds.length : Int)) && decide ((ds.length : Int) ≤ 4))) = false := hb
          rw [Bool.not_eq_false', Bool.and_eq_true, decide_eq_true_eq, decide_eq_true_eq] at z
          exact ⟨ds, rfl, by omega, by omega⟩
        | _ => cases hb
      obtain ⟨a, xs, rfl, ha, hds⟩ := Da.tupl (hd.ex x1)
      have lx := hds.len
      refine ⟨_, rfl, a, rfl, ⟨xs, st_of ha⟩, ?_⟩
      refine for_it (walk_tup (xs := xs)) (fun i σ H' => ∃ (y2 : Option V), σ = [some (.ref ua), some (.ref a), y2] ∧ Ex H1 H' ∧ ∀ j, j < i → lawFun (uxs.length : Nat) (us.getD j .none) = true) ⟨none, rfl, Ex.refl _, fun j h => by omega⟩ (fun i σ H' _ ⟨_, _, e, _⟩ => st_of (e _ _ ha)) ?_ ?_
      · rintro i x σ H' H'' hi ⟨y2, rfl, e1, hall⟩ ⟨rfl, hx⟩
        obtain ⟨u, hu, du⟩ := (hds.ex e1).at hx
        have no : lawFun (uxs.length : Nat) u = false → lawFuns (uxs.length : Nat) (.tuple us) = false := fun z => by
          show (decide (1 ≤ us.length) && decide (us.length ≤ 4) && (List.range us.length).all fun i => lawFun (uxs.length : Nat) (us.getD i .none)) = false
          have : ((List.range us.length).all fun i => lawFun (uxs.length : Nat) (us.getD i .none)) = false := by
            rw [Bool.eq_false_iff]
            intro c
            rw [List.all_eq_true] at c
            have := c i (List.mem_range.mpr (by omega))
            rw [getD_at hu, z] at this
            cases this
          rw [this, Bool.and_false]
        show tSeq _ _ _ _ _
        refine q_when (b := tupOr (fun es => match es with | [o, _] => !isIn o 0 ((uxs.length : Int) - 1) | _ => true) u) ?_ (fun hb H4 x4 => ?_) (fun hb H4 x4 => ?_)
        · refine et_notTup (K := K) (ev_var rfl) du fun b bx es ee ev h1 h2 => ?_
          subst ev
          by_cases l3 : (es.length : Int) = 2
          · obtain ⟨o, bd, rfl⟩ := len2 l3
            have lb := h2.len
            refine et_or (a := false) (b := !isIn o 0 ((uxs.length : Int) - 1)) (et_is (et_test (ev_op (ev_lenT (K := K) (ev_var rfl) (st_of h1)) ev_c (rv_ne rfl))) (by rw [lb]; rfl)) fun _ => ?_
            obtain ⟨vo, hvo, dvo⟩ := h2.of (i := 0) rfl
            exact et_not (et_B (ev_between (ev_op (ev_var rfl) ev_c (rv_ixT (st_of h1) (atI_nat (j := 0) hvo))) dvo ev_c (ev_op (ev_lenT (K := K) (ev_var rfl) (st_of (e1 _ _ (x1 _ _ hua)))) ev_c rv_I0)))
          · refine et_is (et_or (a := true) (b := true) (et_is (et_test (ev_op (ev_lenT (K := K) (ev_var rfl) (st_of h1)) ev_c (rv_ne rfl))) ?_) fun z => by cases z) ?_
            · rw [h2.len]
              exact congrArg (fun b => !b) (decide_eq_false fun z => l3 (V.int.inj z))
            · split
              · exact absurd rfl l3
              · rfl
        · refine s_ret ev_c fun H5 x5 => ?_
          have z : lawFun (uxs.length : Nat) u = false := by
            unfold lawFun
            split
            · rename_i o bs
              have hb' : (!isIn o 0 ((uxs.length : Int) - 1)) = true := hb
              rw [not_true hb', Bool.false_and]
            · rfl
          rw [no z] at q
          exact q H5 (((x1.trans e1).trans x4).trans x5)
        · obtain ⟨o, bd, rfl, ho⟩ : ∃ o bd, u = .tuple [o, bd] ∧ isIn o 0 ((uxs.length : Int) - 1) = true := by
            unfold tupOr at hb
            split at hb
            · dsimp only at hb
              split at hb
              · rename_i o bd
                exact ⟨o, bd, rfl, not_false hb⟩
              · cases hb
            · cases hb
          obtain ⟨b, bx, rfl, hb1, hbx⟩ := Da.tupl (du.ex x4)
          cases hbx with
          | @cons v1 r1 _ _ g1 hbx =>
          cases hbx with
          | @cons v2 r2 _ _ g2 hbx =>
          have i1 : Ev (tOp (rIxT K) (tVar 2) (tC (.int 1))) [some (.ref ua), some (.ref a), some (.ref b)] H4 v2 := ev_op (ev_var rfl) ev_c (rv_ixT (st_of hb1) (atI_nat (j := 1) rfl))
          refine s_when (b := tupOr (fun bs => !(decide ((1 : Int) ≤ (bs.length : Int)) && decide ((bs.length : Int) ≤ 8))) bd) (et_notTup (K := K) i1 g2 fun c cx ds ec ev h3 h4 => ?_) (fun hb H5 x5 => ?_) (fun hb H5 x5 => ?_)
          · subst ev
            exact et_is (et_not (et_test (ev_chainLe ev_c (ev_lenT (K := K) i1 (st_of h3)) ev_c))) (by rw [h4.len])
          · refine s_ret ev_c fun H6 x6 => ?_
            have z : lawFun (uxs.length : Nat) (.tuple [o, bd]) = false := by
              unfold lawFun
              split
              · rename_i o' bs hh
                cases hh
                have hb' : (!(decide ((1 : Int) ≤ (bs.length : Int)) && decide ((bs.length : Int) ≤ 8))) = true := hb
                have z' : ¬ (1 ≤ bs.length ∧ bs.length ≤ 8) := fun h => by
                  rw [decide_eq_true (by omega), decide_eq_true (by omega)] at hb'
                  cases hb'
                rw [← Bool.decide_and, decide_eq_false z', Bool.and_false]
              · rfl
            rw [no z] at q
            exact q H6 ((((x1.trans e1).trans x4).trans x5).trans x6)
          · refine ⟨_, rfl, (e1.trans x4).trans x5, fun j hj => ?_⟩
            rcases Nat.lt_or_ge j i with h | h
            · exact hall j h
            · obtain rfl : j = i := by omega
              rw [getD_at hu]
              cases bd with
              | tuple bs =>
                have hb' : (!(decide ((1 : Int) ≤ (bs.length : Int)) && decide ((bs.length : Int) ≤ 8))) = false := hb
                rw [Bool.not_eq_false', Bool.and_eq_true, decide_eq_true_eq, decide_eq_true_eq] at hb'
                show (isIn o 0 ((uxs.length : Int) - 1) && (decide (1 ≤ bs.length) && decide (bs.length ≤ 8))) = true
                rw [ho, decide_eq_true (by omega), decide_eq_true (by omega)]
                rfl
              | _ => cases hb
      · rintro σ H' ⟨y2, rfl, e1, hall⟩
        have e : lawFuns (uxs.length : Nat) (.tuple us) = true := by
          show (decide (1 ≤ us.length) && decide (us.length ≤ 4) && (List.range us.length).all fun i => lawFun (uxs.length : Nat) (us.getD i .none)) = true
          rw [decide_eq_true h1, decide_eq_true h6, Bool.true_and, Bool.true_and, List.all_eq_true]
          exact fun j hj => hall j (by have := List.mem_range.mp hj; omega)
        rw [e] at q
        exact q H' (x1.trans e1)
end
end FW
set_option Elab.async false
set_option linter.all false
set_option maxRecDepth 100000
set_option maxHeartbeats 4000000
namespace FW
open PySem PySem.Spec PyProof.Rows L2
open Evl (pss_cut tCut)
open Evl (Ex Ev EvT EvA EvL EvU RC RV fresh_back ev_var ev_c ea_nil ea_cons ev_cb ev_op ev_is ev_andV ev_orV ev_notV et_test et_B et_and et_or et_not et_is s_ret s_when q_when q_asg q_asgL q_asgU rv_I0 rv_eq rv_ne rv_ixT rv_ixL)
theorem lawUnits_iff {us : List PyData} : lawUnits (.tuple us) = true ↔ (1 ≤ us.length ∧ us.length ≤ 6 ∧ ∀ (i : Nat) (u : PyData), us[i]? = some u → lawUnit (i : Nat) u = true) := by
  show (decide (1 ≤ us.length) && decide (us.length ≤ 6) && (List.range us.length).all fun i => lawUnit (i : Nat) (us.getD i .none)) = true ↔ _
  rw [Bool.and_eq_true, Bool.and_eq_true, decide_eq_true_eq, decide_eq_true_eq, List.all_eq_true, and_assoc]
  refine ⟨fun ⟨a, b, c⟩ => ⟨a, b, fun i u hi => ?_⟩, fun ⟨a, b, c⟩ => ⟨a, b, fun i hi => ?_⟩⟩
  · have := c i (List.mem_range.mpr (List.getElem?_eq_some_iff.mp hi).1)
    rw [getD_at hi] at this
    exact this
  · have hi := List.mem_range.mp hi
    rw [getD_at (List.getElem?_eq_getElem hi)]
    exact c i _ (List.getElem?_eq_getElem hi)
theorem lawFuns_iff {nu : Int} {fns : List PyData} : lawFuns nu (.tuple fns) = true ↔ (1 ≤ fns.length ∧ fns.length ≤ 4 ∧ ∀ (i : Nat) (f : PyData), fns[i]? = some f → lawFun nu f = true) := by
  show (decide (1 ≤ fns.length) && decide (fns.length ≤ 4) && (List.range fns.length).all fun i => lawFun nu (fns.getD i .none)) = true ↔ _
  rw [Bool.and_eq_true, Bool.and_eq_true, decide_eq_true_eq, decide_eq_true_eq, List.all_eq_true, and_assoc]
  refine ⟨fun ⟨a, b, c⟩ => ⟨a, b, fun i u hi => ?_⟩, fun ⟨a, b, c⟩ => ⟨a, b, fun i hi => ?_⟩⟩
  · have := c i (List.mem_range.mpr (List.getElem?_eq_some_iff.mp hi).1)
    rw [getD_at hi] at this
    exact this
  · have hi := List.mem_range.mp hi
    rw [getD_at (List.getElem?_eq_getElem hi)]
    exact c i _ (List.getElem?_eq_getElem hi)
theorem lawUnit_is {i : Int} {u : PyData} (h : lawUnit i u = true) : ∃ p fz is, u = .tuple [p, .int fz, .tuple is] ∧ is.length ≤ 6 ∧ (isNonD p || isIn p 0 (i - 1)) = true ∧ isIn (.int fz) 0 3 = true := by
  unfold lawUnit at h
  split at h
  · rename_i p f is
    rw [Bool.and_eq_true, Bool.and_eq_true, decide_eq_true_eq] at h
    obtain ⟨fz, rfl, _⟩ := isIn_int h.2.2
    exact ⟨p, fz, is, rfl, h.1, h.2.1, h.2.2⟩
  · cases h
theorem lawFun_is {nu : Int} {u : PyData} (h : lawFun nu u = true) : ∃ o bs, u = .tuple [o, .tuple bs] ∧ 1 ≤ bs.length ∧ bs.length ≤ 8 ∧ isIn o 0 (nu - 1) = true := by
  unfold lawFun at h
  split at h
  · rename_i o bs
    rw [Bool.and_eq_true, Bool.and_eq_true, decide_eq_true_eq, decide_eq_true_eq] at h
    exact ⟨o, bs, rfl, h.2.1, h.2.2, h.1⟩
  · cases h
structure LawP (us fns : List PyData) : Prop where
  u : lawUnits (.tuple us) = true
  f : lawFuns (us.length : Nat) (.tuple fns) = true
  ui : ∀ (i : Nat) (p f : PyData) (is : List PyData), us[i]? = some (.tuple [p, f, .tuple is]) → ∀ (j : Nat) (b : PyData), is[j]? = some b → okIns false (limsI us.length) (us.map fieldsD) b = true
  fi : ∀ (i : Nat) (o : PyData) (bs : List PyData), fns[i]? = some (.tuple [o, .tuple bs]) → ∀ (j : Nat) (b : PyData), bs[j]? = some b → okIns true (limsF us.length bs.length (i : Nat) (fns.length : Nat) (j : Nat)) (us.map fieldsD) b = true
theorem okProg_law {d : PyData} (h : okProg d = true) : ∃ us fns, d = .tuple [.tuple us, .tuple fns] ∧ LawP us fns := by
  obtain ⟨us, fns, rfl⟩ := okProg_tup h
  have h' : (okUnits (.tuple us) && okFuns (us.length : Nat) (.tuple fns) && us.all (fun u => okInit (us.map fieldsD) (bodyD u)) && (List.range fns.length).all fun i => okCode (i : Nat) (fns.length : Nat) (us.map fieldsD) (bodyD (fns.getD i .none))) = true := h
  rw [Bool.and_eq_true, Bool.and_eq_true, Bool.and_eq_true, List.all_eq_true, List.all_eq_true] at h'
  obtain ⟨us', e, u6, u1, hu⟩ := okUnits_tup h'.1.1.1
  cases e
  obtain ⟨fns', e, f4, f1, hf⟩ := okFuns_tup h'.1.1.2
  cases e
  refine ⟨us, fns, rfl, lawUnits_iff.mpr ⟨u1, u6, fun i u hi => ?_⟩, lawFuns_iff.mpr ⟨f1, f4, fun i f hi => ?_⟩, fun i p f is hi j b hj => ?_, fun i o bs hi j b hj => ?_⟩
  · have hou := hu i u hi
    obtain ⟨p, fz, b, rfl, _⟩ := okUnit_tup hou
    have hb : okInit (us.map fieldsD) b = true := h'.1.2 _ (List.mem_of_getElem? hi)
    unfold okInit at hb
    split at hb
    · rename_i is
      rw [Bool.and_eq_true, decide_eq_true_eq] at hb
      have hou' : ((isNonD p || isIn p 0 ((i : Int) - 1)) && isIn (.int fz) 0 3) = true := hou
      show (decide (is.length ≤ 6) && ((isNonD p || isIn p 0 ((i : Int) - 1)) && isIn (.int fz) 0 3)) = true
      rw [hou', decide_eq_true hb.1]
      rfl
    · cases hb
  · have hof := hf f (List.mem_of_getElem? hi)
    obtain ⟨o, b, rfl, _⟩ := okFun_tup hof
    have hb := h'.2 i (List.mem_range.mpr (List.getElem?_eq_some_iff.mp hi).1)
    rw [getD_at hi] at hb
    have hb' : okCode (i : Nat) (fns.length : Nat) (us.map fieldsD) b = true := hb
    unfold okCode at hb'
    split at hb'
    · rename_i bs
      rw [Bool.and_eq_true, Bool.and_eq_true, decide_eq_true_eq, decide_eq_true_eq] at hb'
      have hof' : isIn (.int o) 0 ((us.length : Int) - 1) = true := hof
      show (isIn (.int o) 0 ((us.length : Int) - 1) && (decide (1 ≤ bs.length) && decide (bs.length ≤ 8))) = true
      rw [hof', decide_eq_true hb'.1.1, decide_eq_true hb'.1.2]
      rfl
    · cases hb'
  · have hb : okInit (us.map fieldsD) (.tuple is) = true := h'.1.2 _ (List.mem_of_getElem? hi)
    have hb' : (decide (is.length ≤ 6) && is.all (okIns false (limsI (us.map fieldsD).length) (us.map fieldsD))) = true := hb
    rw [Bool.and_eq_true, List.all_eq_true, List.length_map] at hb'
    exact hb'.2 b (List.mem_of_getElem? hj)
  · have hb := h'.2 i (List.mem_range.mpr (List.getElem?_eq_some_iff.mp hi).1)
    rw [getD_at hi] at hb
    have hb' : (decide (1 ≤ bs.length) && decide (bs.length ≤ 8) && (List.range bs.length).all fun j => okIns true (limsF (us.map fieldsD).length bs.length (i : Nat) (fns.length : Nat) (j : Nat)) (us.map fieldsD) (bs.getD j .none)) = true := hb
    rw [Bool.and_eq_true, List.all_eq_true, List.length_map] at hb'
    have z := hb'.2 j (List.mem_range.mpr (List.getElem?_eq_some_iff.mp hj).1)
    rw [getD_at hj] at z
    exact z
theorem law_okProg {us fns : List PyData} (h : LawP us fns) : okProg (.tuple [.tuple us, .tuple fns]) = true := by
  obtain ⟨u1, u6, hu⟩ := lawUnits_iff.mp h.u
  obtain ⟨f1, f4, hf⟩ := lawFuns_iff.mp h.f
  show (okUnits (.tuple us) && okFuns (us.length : Nat) (.tuple fns) && us.all (fun u => okInit (us.map fieldsD) (bodyD u)) && (List.range fns.length).all fun i => okCode (i : Nat) (fns.length : Nat) (us.map fieldsD) (bodyD (fns.getD i .none))) = true
  have g1 : okUnits (.tuple us) = true := by
    show (decide (1 ≤ us.length) && decide (us.length ≤ 6) && (List.range us.length).all fun i => okUnit (i : Nat) (us.getD i .none)) = true
    rw [decide_eq_true u1, decide_eq_true u6, Bool.true_and, Bool.true_and, List.all_eq_true]
    intro i hi
    have hi := List.mem_range.mp hi
    rw [getD_at (List.getElem?_eq_getElem hi)]
    obtain ⟨p, fz, is, e, _, h2, h3⟩ := lawUnit_is (hu i _ (List.getElem?_eq_getElem hi))
    rw [e]
    show ((isNonD p || isIn p 0 ((i : Int) - 1)) && isIn (.int fz) 0 3) = true
    rw [h2, h3]
    rfl
  have g2 : okFuns (us.length : Nat) (.tuple fns) = true := by
    show (decide (1 ≤ fns.length) && decide (fns.length ≤ 4) && fns.all (okFun (us.length : Nat))) = true
    rw [decide_eq_true f1, decide_eq_true f4, Bool.true_and, Bool.true_and, List.all_eq_true]
    intro f hm
    obtain ⟨i, hi⟩ := List.getElem?_of_mem hm
    obtain ⟨o, bs, rfl, _, _, h3⟩ := lawFun_is (hf i f hi)
    exact h3
  rw [g1, g2, Bool.true_and, Bool.true_and, Bool.and_eq_true, List.all_eq_true, List.all_eq_true]
  refine ⟨fun u hm => ?_, fun i hi => ?_⟩
  · obtain ⟨i, hi⟩ := List.getElem?_of_mem hm
    obtain ⟨p, fz, is, rfl, h1, _⟩ := lawUnit_is (hu i u hi)
    show (decide (is.length ≤ 6) && is.all (okIns false (limsI (us.map fieldsD).length) (us.map fieldsD))) = true
    rw [decide_eq_true h1, Bool.true_and, List.all_eq_true, List.length_map]
    intro b hb
    obtain ⟨j, hj⟩ := List.getElem?_of_mem hb
    exact h.ui i p _ is hi j b hj
  · have hi := List.mem_range.mp hi
    rw [getD_at (List.getElem?_eq_getElem hi)]
    obtain ⟨o, bs, e, h1, h2, _⟩ := lawFun_is (hf i _ (List.getElem?_eq_getElem hi))
    have hfi := h.fi i o bs (by rw [List.getElem?_eq_getElem hi, e])
    rw [e]
    show (decide (1 ≤ bs.length) && decide (bs.length ≤ 8) && (List.range bs.length).all fun j => okIns true (limsF (us.map fieldsD).length bs.length (i : Nat) (fns.length : Nat) (j : Nat)) (us.map fieldsD) (bs.getD j .none)) = true
    rw [decide_eq_true h1, decide_eq_true h2, Bool.true_and, Bool.true_and, List.all_eq_true, List.length_map]
    intro j hj
    have hj := List.mem_range.mp hj
    rw [getD_at (List.getElem?_eq_getElem hj)]
    exact hfi j _ (List.getElem?_eq_getElem hj)
theorem inV_false {n : Nat} {g : Nat → Bool} : inV (V.bl false) ((List.range n).map fun i => V.bl (g i)) = !(List.range n).all g := by
  unfold inV
  rw [List.any_map, List.not_all_eq_any_not]
  congr 1
  funext i
  show (g i == false) = !g i
  cases g i <;> rfl
theorem flat_bls {n : Nat} {g : Nat → Bool} : ((List.range n).map fun i => V.bl (g i)).all flatV = true := by
  rw [List.all_eq_true]
  intro x hx
  obtain ⟨o, _, rfl⟩ := List.mem_map.mp hx
  rfl
section
variable {P : Program} {w : World} {K : PySem.W.Frag} {mg : Str → Option Value} {base : Heap}
theorem ok_law_prog (T : TChk K w.params mg) : Ok P w K mg base CX0 4 "_law_is_program" ["value"] spProg := by
  have G__law_are_units : Ok P w K mg base CX0 2 "_law_are_units" ["value"] spLawUnits := ok_law_units T
  have G__law_are_functions : Ok P w K mg base CX0 2 "_law_are_functions" ["units", "value"] spLawFuns := ok_law_funs T
  have G__law_is_one : Ok P w K mg base CX0 3 "_law_is_one" ["heads", "value", "number", "where"] spOneL := ok_one T
  refine T.d_aprog.ok sc__law_is_program bi__law_is_program (fun vs H Q E h => ?_) (fun cdv A outer s H f vs Q E hr h => ?_)
  · obtain ⟨v, d, rfl, _⟩ := h
    rfl
  · obtain ⟨v, d, rfl, hd, q⟩ := h
    refine ⟨_, (pss_cons (ps_if (PW.pt (pw_or (pt_not (pt_val (pe_callB call_isi (by rfl) T.b_isinstance (by decide +kernel) (pa_cons (pv 0) (pa_cons (pe_bltn (by rfl) T.b_tuple (by decide +kernel) (v := .ty "tuple") rfl) pa_nil))))) (pw_or (pt_cmpR op_ne (pe_callB call_len_seq (by rfl) T.b_len (by decide +kernel) (pa_cons (pv 0) pa_nil)) pe_int (nomark _)) (pw_or1 (pt_not (pt_val (pe_callO G__law_are_units (hr.mono (by decide)) (pa_cons (pe_ix ix_tup (pv 0) pe_int (fun _ _ => rfl)) pa_nil)))))))) (pss_one (ps_ret pe_bl)) pss_nil)
    (pss_cons (ps_asg (pv 0) (pg_tup rfl (pgs_cons (pg_name (i := 1) sc__law_is_program.nd rfl (Or.inl rfl)) (pgs_cons (pg_name (i := 2) sc__law_is_program.nd rfl (Or.inl rfl)) pgs_nil))))
    (pss_cons (ps_if (pt_not (pt_val (pe_callO G__law_are_functions (hr.mono (by decide)) (pa_cons (pv 1) (pa_cons (pv 2) pa_nil))))) (pss_one (ps_ret pe_bl)) pss_nil)
    (pss_cons (ps_set (i := 3) sc__law_is_program.nd rfl (Or.inr rfl) (pe_lc (own := [("unit", 4)]) rfl sc__law_is_program.nd (pi_tup (pv 1)) (blkOk_by (N := N__law_is_program) (sc := defScope s__law_is_program) (by decide +kernel)) (fun _ _ _ _ _ => (pg_name (i := 4) sc__law_is_program.nd rfl (Or.inl rfl))) (fun _ _ _ _ _ => pts_nil) (fun _ _ _ _ _ => (pe_ix (ix_tupK (K := K) rfl) (pv 4) pe_int (fun _ _ => rfl)))))
    (pss_cons (ps_for PassesOwn.never rfl (pi_tup (pv 1)) (pg_name (i := 4) sc__law_is_program.nd rfl (Or.inl rfl)) (pss_one (ps_if (pt_cmpR op_in_seq pe_bl (pe_lc (own := [("one", 5)]) rfl sc__law_is_program.nd (pi_tup (pe_ix ix_tup (pv 4) pe_int (fun _ _ => rfl))) (blkOk_by (N := N__law_is_program) (sc := defScope s__law_is_program) (by decide +kernel)) (fun _ _ _ _ _ => (pg_name (i := 5) sc__law_is_program.nd rfl (Or.inl rfl))) (fun _ _ _ _ _ => pts_nil) (fun _ _ _ _ _ => (pe_callO G__law_is_one (hr.mono (by decide)) (pa_cons (pv 3) (pa_cons (pv 5) (pa_cons pe_non (pa_cons (pe_tup (pa_cons pe_int (pa_cons pe_int pa_nil))) pa_nil))))))) (by rfl)) (pss_one (ps_ret pe_bl)) pss_nil)))
    (pss_cons (ps_for PassesOwn.never rfl (pi_enumT (by rfl) T.b_enumerate (pa_cons (pv 2) pa_nil)) (pg_tup rfl (pgs_cons (pg_name (i := 6) sc__law_is_program.nd rfl (Or.inl rfl)) (pgs_cons (pg_name (i := 7) sc__law_is_program.nd rfl (Or.inl rfl)) pgs_nil))) (pss_one (ps_for PassesOwn.never rfl (pi_enumT (by rfl) T.b_enumerate (pa_cons (pe_ix ix_tup (pv 7) pe_int (fun _ _ => rfl)) pa_nil)) (pg_tup rfl (pgs_cons (pg_name (i := 8) sc__law_is_program.nd rfl (Or.inl rfl)) (pgs_cons (pg_name (i := 5) sc__law_is_program.nd rfl (Or.inl rfl)) pgs_nil))) (pss_one (ps_if (pt_not (pt_val (pe_callO G__law_is_one (hr.mono (by decide)) (pa_cons (pv 3) (pa_cons (pv 5) (pa_cons (pe_tup (pa_cons (pv 6) (pa_cons (pe_callB call_len_seq (by rfl) T.b_len (by decide +kernel) (pa_cons (pv 2) pa_nil)) pa_nil))) (pa_cons (pe_tup (pa_cons (pv 8) (pa_cons (pe_callB call_len_seq (by rfl) T.b_len (by decide +kernel) (pa_cons (pe_ix ix_tup (pv 7) pe_int (fun _ _ => rfl)) pa_nil)) pa_nil))) pa_nil))))))) (pss_one (ps_ret pe_bl)) pss_nil)))))
    (pss_one (ps_ret pe_bl)))))))), ?_⟩
    refine q_when (b := tupOr (fun es => match es with | [u, _] => !lawUnits u | _ => true) d) (et_notTup (K := K) (ev_var rfl) hd fun a xs es e1 ev h1 h2 => ?_) (fun hb H1 x1 => ?_) (fun hb H1 x1 => ?_)
    · subst ev
      by_cases l3 : (es.length : Int) = 2
      · obtain ⟨o, bd, rfl⟩ := len2 l3
        have lb := h2.len
        refine et_or (a := false) (b := !lawUnits o) (et_is (et_test (ev_op (ev_lenT (K := K) (ev_var rfl) (st_of h1)) ev_c (rv_ne rfl))) (by rw [lb]; rfl)) fun _ => ?_
        obtain ⟨vo, hvo, dvo⟩ := h2.of (i := 0) rfl
        exact et_not (et_B (sv_ret (fun H4 e4 Q q => ⟨vo, o, rfl, dvo.ex e4, q⟩) (ea_cons (ev_op (ev_var rfl) ev_c (rv_ixT (st_of h1) (atI_nat (j := 0) hvo))) ea_nil)))
      · refine et_is (et_or (a := true) (b := true) (et_is (et_test (ev_op (ev_lenT (K := K) (ev_var rfl) (st_of h1)) ev_c (rv_ne rfl))) ?_) fun z => by cases z) ?_
        · rw [h2.len]
          exact congrArg (fun b => !b) (decide_eq_false fun z => l3 (V.int.inj z))
        · split
          · exact absurd rfl l3
          · rfl
    · have e : okProg d = false := by
        rw [Bool.eq_false_iff]
        intro c
        obtain ⟨us, fns, rfl, L⟩ := okProg_law c
        have hb' : (!lawUnits (.tuple us)) = true := hb
        rw [L.u] at hb'
        cases hb'
      rw [e] at q
      exact s_ret ev_c fun H2 x2 => q H2 (x1.trans x2)
    · obtain ⟨du, df, rfl, hlu⟩ : ∃ du df, d = .tuple [du, df] ∧ lawUnits du = true := by
        unfold tupOr at hb
        split at hb
        · dsimp only at hb
          split at hb
          · rename_i o bd
            exact ⟨o, bd, rfl, not_false hb⟩
          · cases hb
        · cases hb
      obtain ⟨us, rfl⟩ : ∃ us, du = .tuple us := by
        cases du with
        | tuple us => exact ⟨us, rfl⟩
        | _ => cases hlu
      obtain ⟨u1, u6, hus⟩ := lawUnits_iff.mp hlu
      obtain ⟨a, xs, rfl, ha, hds⟩ := Da.tupl (hd.ex x1)
      cases hds with
      | @cons v1 r1 _ _ g1 hds =>
      cases hds with
      | @cons v2 r2 _ _ g2 hds =>
      cases hds
      obtain ⟨ua, uxs, rfl, hua, huds⟩ := Da.tupl g1
      have lu := huds.len
      refine ⟨_, rfl, a, _, rfl, st_of ha, rfl, _, _, rfl, _, _, rfl, rfl, ?_⟩
      show tSeq _ _ _ _ _
      refine q_when (b := !lawFuns (us.length : Nat) df) (et_not (et_B (sv_ret (fun H4 e4 Q q => ⟨ua, v2, uxs, df, rfl, e4 _ _ hua, g2.ex e4, by rw [lu]; exact q⟩) (ea_cons (ev_var rfl) (ea_cons (ev_var rfl) ea_nil))))) (fun hb H2 x2 => ?_) (fun hb H2 x2 => ?_)
      · have e : okProg (.tuple [.tuple us, df]) = false := by
          rw [Bool.eq_false_iff]
          intro c
          obtain ⟨us', fns, e, L⟩ := okProg_law c
          cases e
          rw [L.f] at hb
          cases hb
        rw [e] at q
        exact s_ret ev_c fun H3 x3 => q H3 ((x1.trans x2).trans x3)
      have hlf := not_false hb
      obtain ⟨fns, rfl⟩ : ∃ fns, df = .tuple fns := by
        cases df with
        | tuple us => exact ⟨us, rfl⟩
        | _ => cases hlf
      obtain ⟨f1, f4, hfs⟩ := lawFuns_iff.mp hlf
      obtain ⟨fa, fxs, rfl, hfa, hfds⟩ := Da.tupl (g2.ex x2)
      have lf := hfds.len
      have hua2 := x2 _ _ hua
      have huds2 := huds.ex x2
      -- heads
      have el := el_lcT (K := K) (a := ua) (xs := uxs) (j := 4) (vs := [4]) (te := tOp (rIxT K) (tVar 4) (tC (.int 1))) (σ := [some (.ref a), some (.ref ua), some (.ref fa), none, none, none, none, none, none]) (H := H2) (tx := tVar 1) (fun i => .int (fieldsD (us.getD i .none))) (ev_var rfl) (st_of hua2) (by omega) (fun _ => rfl) (fun k x H' x' hk => by
        obtain ⟨uk, huk, duk⟩ := (huds2.ex x').at hk
        obtain ⟨pp, fz, is, rfl, _⟩ := lawUnit_is (hus k uk huk)
        obtain ⟨ka, kx, rfl, hka, hkx⟩ := Da.tupl duk
        cases hkx with
        | @cons q1 r1 _ _ m1 hkx =>
        cases hkx with
        | @cons q2 r2 _ _ m2 hkx =>
        cases m2
        rw [getD_at huk]
        exact ev_op (ev_var rfl) ev_c (rv_ixT (st_of hka) (atI_nat (j := 1) rfl)))
      have efs : (List.range uxs.length).map (fun i => V.int (fieldsD (us.getD i .none))) = (us.map fieldsD).map V.int := by
        rw [lu, List.map_map]
        refine List.ext_getElem? fun k => ?_
        rw [List.getElem?_map, List.getElem?_map]
        rcases Nat.lt_or_ge k us.length with h | h
        · rw [List.getElem?_range h, List.getElem?_eq_getElem h]
          show some (V.int (fieldsD (us.getD k .none))) = _
          rw [getD_at (List.getElem?_eq_getElem h)]
          rfl
        · rw [List.getElem?_eq_none (by rw [List.length_range]; exact h), List.getElem?_eq_none h]
          rfl
      rw [efs] at el
      refine q_asgL el fun hl H3 nhl x3 hhl => ?_
      have lfs : (us.map fieldsD).length = us.length := List.length_map ..
      generalize hfs' : us.map fieldsD = fs at hhl lfs
      have no : (∀ (us' fns' : List PyData), us' = us → fns' = fns → LawP us' fns' → False) → ∀ {H' : Hp}, Ex H3 H' → Q (.bl false) H' := fun hc H' e => by
        have z : okProg (.tuple [.tuple us, .tuple fns]) = false := by
          rw [Bool.eq_false_iff]
          intro c
          obtain ⟨us', fns', e, L⟩ := okProg_law c
          cases e
          exact hc us fns rfl rfl L
        rw [z] at q
        exact q H' (((x1.trans x2).trans x3).trans e)
      have hua3 := x3 _ _ hua2
      have huds3 := huds2.ex x3
      have hfa3 := x3 _ _ hfa
      have hfds3 := hfds.ex x3
      -- the units
      refine ⟨_, rfl, ua, rfl, ⟨uxs, st_of hua3⟩, ?_⟩
      refine for_it (walk_tup (xs := uxs)) (fun i σ H' => ∃ (y4 y5 : Option V), σ = [some (.ref a), some (.ref ua), some (.ref fa), some (.ref hl), y4, y5, none, none, none] ∧ Ex H3 H' ∧
          ∀ i', i' < i → ∀ (p f : PyData) (is : List PyData), us[i']? = some (.tuple [p, f, .tuple is]) → ∀ (j : Nat) (b : PyData), is[j]? = some b → okIns false (limsI us.length) fs b = true)
        ⟨_, none, rfl, Ex.refl _, fun i' h => by omega⟩ (fun i σ H' _ ⟨_, _, _, e, _⟩ => st_of (e _ _ hua3)) ?_ ?_
      · rintro i x σ H' H'' hi ⟨y4, y5, rfl, e1, hall⟩ ⟨rfl, hx⟩
        obtain ⟨uk, huk, duk⟩ := (huds3.ex e1).at hx
        obtain ⟨pp, fz, is, rfl, hl6, _⟩ := lawUnit_is (hus i uk huk)
        obtain ⟨ka, kx, rfl, hka, hkx⟩ := Da.tupl duk
        obtain ⟨vi, hvi, dvi⟩ := hkx.of (i := 2) rfl
        obtain ⟨ia, ix, rfl, hia, hix⟩ := Da.tupl dvi
        have li := hix.len
        have el := el_lcT (K := K) (a := ia) (xs := ix) (j := 5) (vs := [5]) (te := tCall spOneL [] E0 (tCons (tVar 3) (tCons (tVar 5) (tCons (tC .non) (tCons (tTup (tCons (tC (.int 0)) (tCons (tC (.int 0)) tNil))) tNil))))) (σ := [some (.ref a), some (.ref ua), some (.ref fa), some (.ref hl), some (.ref ka), y5, none, none, none]) (H := H'') (tx := tOp (rIxT K) (tVar 4) (tC (.int 2)))
          (fun j => .bl (okIns false (limsI us.length) fs (is.getD j .none))) (ev_op (ev_var rfl) ev_c (rv_ixT (st_of hka) (atI_nat (j := 2) hvi))) (st_of hia) (by omega) (fun _ => rfl) (fun k x H4 x4 hk => by
            obtain ⟨dk, hdk, ddk⟩ := (hix.ex x4).at hk
            rw [getD_at hdk, ← lfs]
            exact fun H5 e5 Q' q' => ⟨_, rfl, _, rfl, sz_of (by show 2 ≤ 100000; decide), fun wh nwh => ⟨hl, wh, fs, x, .non, dk, none, 0, 0, rfl, (Ex.new nwh) _ _ (e5 _ _ (x4 _ _ (e1 _ _ hhl))), ddk.ex (e5.trans (Ex.new nwh)), .inl ⟨rfl, rfl⟩, upd_same, fun H6 e6 => q' H6 ((Ex.new nwh).trans e6)⟩⟩)
        refine s_when (b := !(List.range ix.length).all fun j => okIns false (limsI us.length) fs (is.getD j .none)) (et_is (et_test (Evl.ev_opL ev_c el fun p2 H6 hp2 _ => Evl.rv_inL (sl_of hp2) rfl flat_bls)) (by rw [if_neg (by decide), inV_false])) (fun hbi H4 x4 => ?_) (fun hbi H4 x4 => ?_)
        · refine s_ret ev_c fun H5 x5 => no (fun us' fns' e1 e2 L => ?_) ((e1.trans x4).trans x5)
          subst e1 e2
          have hbi := not_true hbi
          rw [Bool.eq_false_iff] at hbi
          refine hbi ?_
          rw [List.all_eq_true]
          intro j hj
          have hj := List.mem_range.mp hj
          rw [getD_at (List.getElem?_eq_getElem (by omega : j < is.length)), ← hfs']
          exact L.ui i _ _ is huk j _ (List.getElem?_eq_getElem (by omega : j < is.length))
        · refine ⟨_, _, rfl, e1.trans x4, fun i' hi' p f is' hu' j b hj => ?_⟩
          rcases Nat.lt_or_ge i' i with h | h
          · exact hall i' h p f is' hu' j b hj
          · obtain rfl : i' = i := by omega
            rw [huk] at hu'
            cases hu'
            have hbi := not_false hbi
            rw [List.all_eq_true] at hbi
            have := hbi j (List.mem_range.mpr (by have := (List.getElem?_eq_some_iff.mp hj).1; omega))
            rw [getD_at hj] at this
            exact this
      rintro σ H4 ⟨y4, y5, rfl, e4, hui⟩
      rw [lu] at hui
      -- the functions
      have hfa4 := e4 _ _ hfa3
      have hfds4 := hfds3.ex e4
      show tSeq _ _ _ _ _
      refine ⟨_, rfl, fa, fxs, rfl, st_of hfa4, ?_⟩
      refine for_it walk_enumT (fun i σ H' => ∃ (y5 y6 y7 y8 : Option V), σ = [some (.ref a), some (.ref ua), some (.ref fa), some (.ref hl), y4, y5, y6, y7, y8] ∧ Ex H4 H' ∧
          ∀ i', i' < i → ∀ (o : PyData) (bs : List PyData), fns[i']? = some (.tuple [o, .tuple bs]) → ∀ (j : Nat) (b : PyData), bs[j]? = some b → okIns true (limsF us.length bs.length (i' : Nat) (fns.length : Nat) (j : Nat)) fs b = true)
        ⟨_, none, none, none, rfl, Ex.refl _, fun i' h => by omega⟩ (fun i σ H' _ ⟨_, _, _, _, _, e, _⟩ => st_of (e _ _ hfa4)) ?_ ?_
      · rintro i x σ H' H'' hi ⟨y5, y6, y7, y8, rfl, e1, hall⟩ ⟨T', z1, z2, rfl, nT, rfl, f1', f2⟩
        obtain rfl : z1 = .int (i : Nat) := (Option.some.inj f1').symm
        refine ⟨T', _, rfl, .inl (.inl upd_same), rfl, _, _, rfl, _, _, rfl, rfl, ?_⟩
        have eT := e1.trans (Ex.new nT (o := .tup [V.int (i : Nat), z2]))
        obtain ⟨fk, hfk, dfk⟩ := (hfds4.ex eT).at f2
        generalize upd H' T' (.tup [V.int (i : Nat), z2]) = H5 at eT dfk ⊢
        obtain ⟨o, bs, rfl, b1, b8, _⟩ := lawFun_is (hfs i fk hfk)
        obtain ⟨ka, kx, rfl, hka, hkx⟩ := Da.tupl dfk
        obtain ⟨vi, hvi, dvi⟩ := hkx.of (i := 1) rfl
        obtain ⟨ba, bx, rfl, hba, hbx⟩ := Da.tupl dvi
        have lb := hbx.len
        refine ⟨_, rfl, ka, kx, 1, _, rfl, rfl, st_of hka, atI_nat (j := 1) hvi, ba, bx, rfl, st_of hba, ?_⟩
        refine for_it walk_enumT (fun j σ H' => ∃ (y5 y8 : Option V), σ = [some (.ref a), some (.ref ua), some (.ref fa), some (.ref hl), y4, y5, some (.int (i : Nat)), some (.ref ka), y8] ∧ Ex H5 H' ∧
            ∀ j', j' < j → ∀ (b : PyData), bs[j']? = some b → okIns true (limsF us.length bs.length (i : Nat) (fns.length : Nat) (j' : Nat)) fs b = true)
          ⟨_, _, rfl, Ex.refl _, fun i' h => by omega⟩ (fun i σ H' _ ⟨_, _, _, e, _⟩ => st_of (e _ _ hba)) ?_ ?_
        · rintro j x σ H6 H7 hj ⟨y5, y8, rfl, e6, hall2⟩ ⟨T2, z1, z2, rfl, nT2, rfl, f1', f2'⟩
          obtain rfl : z1 = .int (j : Nat) := (Option.some.inj f1').symm
          refine ⟨T2, _, rfl, .inl (.inl upd_same), rfl, _, _, rfl, _, _, rfl, rfl, ?_⟩
          have eT2 := e6.trans (Ex.new nT2 (o := .tup [V.int (j : Nat), z2]))
          obtain ⟨bk, hbk, dbk⟩ := (hbx.ex eT2).at f2'
          generalize upd H6 T2 (.tup [V.int (j : Nat), z2]) = H8 at eT2 dbk ⊢
          have x48 := eT.trans eT2
          refine s_when (b := !okIns true (limsF us.length bs.length (i : Nat) (fns.length : Nat) (j : Nat)) fs bk) (et_not (et_B ?_)) (fun hbi H9 x9 => ?_) (fun hbi H9 x9 => ?_)
          · intro H9 e9 Q' q'
            refine ⟨_, rfl, _, rfl, _, rfl, _, rfl, fa, fxs, rfl, .inr (st_of (e9 _ _ (x48 _ _ hfa4))), sz_of (by show 2 ≤ 100000; decide), fun nt nnt => ?_⟩
            have en := Ex.new nnt (o := .tup [V.int (i : Nat), .int (fxs.length : Nat)])
            refine ⟨_, rfl, _, rfl, ka, kx, 1, _, rfl, rfl, st_of (en _ _ (e9 _ _ (eT2 _ _ hka))), atI_nat (j := 1) hvi, ba, bx, rfl, .inr (st_of (en _ _ (e9 _ _ (eT2 _ _ hba)))), sz_of (by show 2 ≤ 100000; decide), fun wh nwh => ?_⟩
            have ew := Ex.new nwh (o := .tup [V.int (j : Nat), .int (bx.length : Nat)])
            have eA := (e9.trans en).trans ew
            refine ⟨hl, wh, fs, z2, .ref nt, bk, some ((i : Nat), (fns.length : Nat)), (j : Nat), bs.length, rfl, eA _ _ (x48 _ _ (e4 _ _ hhl)), dbk.ex eA, .inr ⟨nt, _, _, rfl, ew _ _ (by rw [upd_same, lf]), rfl⟩, by rw [upd_same, lb], fun H10 e10 => ?_⟩
            have z := q' H10 ((en.trans ew).trans e10)
            rw [← lfs] at z
            exact z
          · refine s_ret ev_c fun H10 x10 => no (fun us' fns' e1 e2 L => ?_) (((e4.trans x48).trans x9).trans x10)
            subst e1 e2
            have hbi := not_true hbi
            rw [← hfs', L.fi i o bs hfk j bk hbk] at hbi
            cases hbi
          · refine ⟨_, _, rfl, eT2.trans x9, fun j' hj' b hbj => ?_⟩
            rcases Nat.lt_or_ge j' j with h | h
            · exact hall2 j' h b hbj
            · obtain rfl : j' = j := by omega
              rw [hbk] at hbj
              cases hbj
              exact not_false hbi
        · rintro σ H6 ⟨y5, y8, rfl, e6, hall2⟩
          refine ⟨_, _, _, _, rfl, eT.trans e6, fun i' hi' o' bs' hf' j b hj => ?_⟩
          rcases Nat.lt_or_ge i' i with h | h
          · exact hall i' h o' bs' hf' j b hj
          · obtain rfl : i' = i := by omega
            rw [hfk] at hf'
            cases hf'
            exact hall2 j (by have := (List.getElem?_eq_some_iff.mp hj).1; omega) b hj
      · rintro σ H5 ⟨y5, y6, y7, y8, rfl, e5, hfi⟩
        rw [lf] at hfi
        have z : okProg (.tuple [.tuple us, .tuple fns]) = true := law_okProg ⟨hlu, hlf, fun i p f is hu j b hj => by rw [hfs']; exact hui i (List.getElem?_eq_some_iff.mp hu).1 p f is hu j b hj, fun i o bs hf j b hj => by rw [hfs']; exact hfi i (List.getElem?_eq_some_iff.mp hf).1 o bs hf j b hj⟩
        rw [z] at q
        exact q H5 ((((x1.trans x2).trans x3).trans e4).trans e5)
end
end FW
set_option Elab.async false
set_option linter.all false
set_option maxRecDepth 100000
set_option maxHeartbeats 4000000
namespace FW
open PySem PySem.Spec PyProof.Rows L2
open Evl (pss_cut tCut)
open Evl (Ex Ev EvT EvA EvL EvU RC RV fresh_back ev_var ev_c ea_nil ea_cons ev_cb ev_op ev_is ev_andV ev_orV ev_notV et_test et_B et_and et_or et_not et_is s_ret s_when q_when q_asg q_asgL q_asgU rv_I0 rv_eq rv_ne rv_ixT rv_ixL)
def KTup (K : PySem.W.Frag) (mg : Str → Option Value) (x : Str) (ws : List Str) : Prop := ∃ a, mg x = some (.ref a) ∧ ∀ H, SqT K H a (ws.map V.str)
structure TAcc (K : PySem.W.Frag) (P : Params) (mg : Str → Option Value) : Prop extends TProg K P mg where
  b_range : mg "range" = none
  b_list : mg "list" = none
  b_zip : mg "zip" = none
  c_MOST_INPUTS : ∃ t, mg "MOST_INPUTS" = some (.int 100 t)
  k_CHECKED : KTup K mg "CHECKED_WORDS" ["read", "write", "call"]
  d_is_number : Df K mg "is_number" s_is_number
  d_is_inputs : Df K mg "is_inputs" s_is_inputs
  d_need_program : Df K mg "need_program" s_need_program
  d_accesses : Df K mg "accesses" s_accesses
  d_spots : Df K mg "_spots_where" s__spots_where
  d_bodies : Df K mg "_bodies" s__bodies
  d_body : Df K mg "_law_body" s__law_body
  d_unit_of : Df K mg "_law_unit_of" s__law_unit_of
  d_laccesses : Df K mg "_law_accesses" s__law_accesses
  d_same : Df K mg "_law_same" s__law_same
/-! ### the accesses of a program, as data -/
def isAcc (b : PyData) : Bool := match b with
  | .tuple (.str w :: _) => decide (w = "read" ∨ w = "write" ∨ w = "call" ∨ w = "wake")
  | _ => false
def spots (nm : PyData) (bs : List PyData) : List PyData := ((List.range bs.length).filter fun j => isAcc (bs.getD j .none)).map fun j => PyData.tuple [nm, .int (j : Nat)]
def codeD (d : PyData) : List PyData := match bodyD d with
  | .tuple bs => bs
  | _ => []
def bodsN (w : Str) (ds : List PyData) : List (PyData × List PyData) := (List.range ds.length).map fun i => (PyData.tuple [.str w, .int (i : Nat)], codeD (ds.getD i .none))
def bodsD (us fns : List PyData) : List (PyData × List PyData) := bodsN "function" fns ++ bodsN "unit" us
def bodP (b : PyData × List PyData) : PyData := .tuple [b.1, .tuple b.2]
def accD (d : PyData) : List PyData := match d with
  | .tuple [.tuple us, .tuple fns] => ((bodsD us fns).map fun b => spots b.1 b.2).flatten
  | _ => []
theorem it_it {J : It} {n : Nat} {G : Hp → Prop} {Y : Nat → Hp → V → Hp → Prop} (w : Walk J n G Y) {T : V → Hp → (Hp → Prop) → Prop} {H0 : Hp} {Qd : Hp → Prop} (Pv : Nat → Hp → Prop) (h0 : Pv 0 H0) (hG : ∀ i H, i ≤ n → Pv i H → G H)
    (hs : ∀ i x H H', i < n → Pv i H → Y i H x H' → T x H' (Pv (i + 1))) (hd : ∀ H, Pv n H → Qd H) :
    ∃ W : Nat → Nat → Hp → Prop, (∃ m, W 0 m H0) ∧ ∀ i m H, W i m H → (J.stop i H ∧ Qd H) ∨ (J.go i H ∧ ∃ Nx : Hp → Prop, (∀ H', Nx H' → ∃ m', m' < m ∧ W (i + 1) m' H') ∧ ∀ x H', J.yld i H x H' → T x H' Nx) := by
  refine ⟨fun i m H => m = n - i ∧ i ≤ n ∧ Pv i H, ⟨n, by simp, Nat.zero_le _, h0⟩, ?_⟩
  rintro i m H ⟨rfl, hi, p⟩
  have q := hG i H hi p
  by_cases hlt : i < n
  · refine .inr ⟨w.goes i H hlt q, Pv (i + 1), fun H' p' => ⟨n - (i + 1), by omega, rfl, hlt, p'⟩, fun x H' y => hs i x H H' hlt p (w.yields i H x H' hlt q y)⟩
  · have e : i = n := by omega
    subst e
    exact .inl ⟨w.stops H q, hd H p⟩
section
variable {P : Program} {w : World} {K : PySem.W.Frag} {mg : Str → Option Value} {base : Heap}
def spNeedP : Sp := fun vs H Q _ => ∃ (v : V) (d : PyData), vs = [v] ∧ Da H v d ∧ okProg d = true ∧ Ret .non H Q
theorem ok_need_program (T : TAcc K w.params mg) : Ok P w K mg base CX0 7 "need_program" ["program"] spNeedP := by
  have G_is_program : Ok P w K mg base CX0 6 "is_program" ["thing"] spProg := ok_is_program T.toTProg
  refine T.d_need_program.ok sc_need_program bi_need_program (fun vs H Q E h => ?_) (fun cdv A outer s H f vs Q E hr h => ?_)
  · obtain ⟨v, d, rfl, _⟩ := h
    rfl
  · obtain ⟨v, d, rfl, hd, ok, q⟩ := h
    refine ⟨_, (pss_one (ps_if (pt_not (pt_val (pe_callO G_is_program (hr.mono (by decide)) (pa_cons (pv 0) pa_nil)))) (pss_one ps_never) pss_nil)), ?_⟩
    exact ⟨v, rfl, v, d, rfl, hd, fun H1 e => ⟨_, rfl, by rw [ok]; exact q H1 e⟩⟩
def spNum : Sp := fun vs H Q _ => ∃ v d, vs = [v] ∧ Da H v d ∧ Ret (.bl (isIn d 0 65535)) H Q
theorem ok_is_number (T : TAcc K w.params mg) : Ok P w K mg base CX0 3 "is_number" ["thing"] spNum := by
  have G_is_within : Ok P w K mg base CX0 2 "is_within" ["thing", "low", "high"] spWithin := ok_is_within T.toTProg
  refine T.d_is_number.ok sc_is_number bi_is_number (fun vs H Q E h => ?_) (fun cdv A outer s H f vs Q E hr h => ?_)
  · obtain ⟨v, d, rfl, _⟩ := h
    rfl
  · obtain ⟨v, d, rfl, hd, q⟩ := h
    refine ⟨_, (pss_one (ps_ret (pe_callO G_is_within (hr.mono (by decide)) (pa_cons (pv 0) (pa_cons pe_int (pa_cons (pe_const T.c_MOST_NUMBER) pa_nil)))))), ?_⟩
    exact s_ret (sv_ret (fun H1 e Q q => ⟨v, d, 0, 65535, rfl, hd.ex e, q⟩) (ea_cons (ev_var rfl) (ea_cons ev_c (ea_cons ev_c ea_nil)))) q
def inpD (d : PyData) : Bool := match d with
  | .list ds => decide (ds.length ≤ 100) && (List.range ds.length).all fun i => isIn (ds.getD i .none) 0 65535
  | _ => false
theorem el_lcLs {σ : L2.St} {H : Hp} {te tx : TE} {a : Addr} {xs : List V} {j : Nat} {vs : List Nat} (f : Nat → V) (h : Ev tx σ H (.ref a)) (hx : H a = some (.lst xs)) (hz : xs.length ≤ 40000) (hw : ∀ x, wipe ((wipe σ vs).set j (some x)) vs = wipe σ vs)
    (he : ∀ (k : Nat) (x : V) H1, Ex H H1 → xs[k]? = some x → Ev te ((wipe σ vs).set j (some x)) H1 (f k)) : EvL (tLc (iList K tx) (gName j) tYes te vs) σ H ((List.range xs.length).map f) := fun H0 e Q q => h H0 e _ fun H1 e1 => ⟨a, rfl, ⟨xs, sl_of ((e.trans e1) _ _ hx)⟩, fun Dl hD =>
  lc_it (walk_list (xs := xs)) (fun i H' => Mk H1 f Dl i H' ∧ Ex H H') ⟨⟨hD, Evl.Ex.new hD, upd_same⟩, (e.trans e1).trans (Evl.Ex.new hD)⟩ (fun i H' _ p => sl_of (p.2 _ _ hx)) (fun k x H' H'' hk p y => by
    obtain ⟨rfl, hx'⟩ := y
    refine ⟨hw x, ?_⟩
    show te _ _ _
    exact he k x H'' p.2 hx' H'' (Evl.Ex.refl _) _ fun H4 e4 => by
      obtain ⟨p1, p2, p3⟩ := p.1
      refine ⟨(List.range k).map f, e4 Dl _ p3, sz_lt (by rw [List.length_map, List.length_range]; omega), ⟨p1, Evl.Ex.mut (p2.trans e4) p1, ?_⟩, Evl.Ex.mut (p.2.trans e4) (fresh_back (e.trans e1) p1)⟩
      rw [range_snoc]
      exact upd_same) (fun H' p => q Dl H' (fresh_back e1 p.1.1) (e1.trans p.1.2.1) p.1.2.2)⟩
def spInputs : Sp := fun vs H Q _ => ∃ v d, vs = [v] ∧ Da H v d ∧ Ret (.bl (inpD d)) H Q
theorem ok_is_inputs (T : TAcc K w.params mg) : Ok P w K mg base CX0 4 "is_inputs" ["thing"] spInputs := by
  have G_is_number : Ok P w K mg base CX0 3 "is_number" ["thing"] spNum := ok_is_number T
  refine T.d_is_inputs.ok sc_is_inputs bi_is_inputs (fun vs H Q E h => ?_) (fun cdv A outer s H f vs Q E hr h => ?_)
  · obtain ⟨v, d, rfl, _⟩ := h
    rfl
  · obtain ⟨v, d, rfl, hd, q⟩ := h
    refine ⟨_, (pss_one (ps_ret (pe_and (pe_callB call_isi (by rfl) T.b_isinstance (by decide +kernel) (pa_cons (pv 0) (pa_cons (pe_bltn (by rfl) T.b_list (by decide +kernel) (v := .ty "list") rfl) pa_nil))) (pe_and (pe_cmpR op_le (pe_callB call_len_seq (by rfl) T.b_len (by decide +kernel) (pa_cons (pv 0) pa_nil)) (pe_const T.c_MOST_INPUTS) (nomark _)) (pe_one (pe_callB (cr_all rfl) (by rfl) T.b_all (by decide +kernel) (pa_cons (pe_lc (own := [("member", 1)]) rfl sc_is_inputs.nd (pi_list (pv 0)) (blkOk_by (N := N_is_inputs) (sc := defScope s_is_inputs) (by decide +kernel)) (fun _ _ _ _ _ => (pg_name (i := 1) sc_is_inputs.nd rfl (Or.inl rfl))) (fun _ _ _ _ _ => pts_nil) (fun _ _ _ _ _ => (pe_callO G_is_number (hr.mono (by decide)) (pa_cons (pv 1) pa_nil)))) pa_nil))))))), ?_⟩
    refine s_ret (ev_is (ev_andV (a := isTy d "list") (b := inpD d) (ev_isi (ev_var rfl) hd (.inr (.inr (.inr (.inr rfl))))) fun ha => ?_) ?_) q
    · rw [ty_list] at ha
      cases hd with
      | @lst a xs ds h1 h2 =>
        have hl := h2.len
        refine ev_andV (a := decide (ds.length ≤ 100)) (b := (List.range ds.length).all fun i => isIn (ds.getD i .none) 0 65535) (ev_is (ev_op (ev_lenL (K := K) (ev_var rfl) (sl_of h1)) (fun H1 e Q q => q H1 (Ex.refl _)) rv_I0) ?_) fun hb => ?_
        · rw [hl]
          exact congrArg V.bl (decide_eq_decide.mpr (by omega))
        · have hb := of_decide_eq_true hb
          have el := el_lcLs (K := K) (xs := xs) (te := tCall spNum [] E0 (tCons (tVar 1) tNil)) (tx := tVar 0) (σ := [some (.ref a), none]) (H := H) (j := 1) (vs := [1]) (fun i => .bl (isIn (ds.getD i .none) 0 65535)) (ev_var rfl) h1 (by omega) (fun _ => rfl) (fun k x H1 x1 hk => by
            obtain ⟨dk, e1, dd⟩ := h2.at hk
            rw [getD_at e1]
            exact sv_ret (fun H4 e Q q => ⟨x, dk, rfl, (dd.ex x1).ex e, q⟩) (ea_cons (ev_var rfl) ea_nil))
          rw [bl_map] at el
          refine ev_is (ev_allN (elw_new el)) ?_
          rw [all_map, hl]
      | _ => cases ha
    · rw [ty_list]
      cases d <;> rfl
end
end FW
set_option Elab.async false
set_option linter.all false
set_option maxRecDepth 100000
set_option maxHeartbeats 4000000
namespace FW
open PySem PySem.Spec PyProof.Rows L2
open Evl (pss_cut tCut)
open Evl (Ex Ev EvT EvA EvL EvU RC RV fresh_back ev_var ev_c ea_nil ea_cons ev_cb ev_op ev_is ev_andV ev_orV ev_notV et_test et_B et_and et_or et_not et_is s_ret s_when q_when q_asg q_asgL q_asgU rv_I0 rv_eq rv_ne rv_ixT rv_ixL)
section
variable {P : Program} {w : World} {K : PySem.W.Frag} {mg : Str → Option Value} {base : Heap}
/-- te gives a datum -/
def EvP (te : TE) (σ : L2.St) (H : Hp) (d : PyData) : Prop := ∀ H1, Ex H H1 → ∀ Q : VK, (∀ v H2, Ex H1 H2 → Da H2 v d → Q v H2) → te σ H1 Q
/-- te gives a new list of data -/
def EvPl (te : TE) (σ : L2.St) (H : Hp) (ds : List PyData) : Prop := ∀ H1, Ex H H1 → ∀ Q : VK, (∀ l ys H2, Ex H1 H2 → H1 l = none → H2 l = some (.lst ys) → DaAll H2 ys ds → Q (.ref l) H2) → te σ H1 Q
theorem q_asgPl {σ : L2.St} {H : Hp} {te : TE} {ds : List PyData} {i : Nat} {tz : TS} {D : Ends} (h : EvPl te σ H ds) (k : ∀ l ys H2, Ex H H2 → H l = none → H2 l = some (.lst ys) → DaAll H2 ys ds → tz D (σ.set i (some (.ref l))) H2) : tSeq (tAsg te (gName i)) tz D σ H :=
  h H (Ex.refl _) _ fun l ys H2 x nl hl d => k l ys H2 x nl hl d
theorem el_lcED {σ : L2.St} {H : Hp} {te : TE} {ta : TA} {a : Addr} {xs : List V} {i j : Nat} {vs : List Nat} (g : Nat → PyData) (hg : ∀ k, noL (g k) = true) (h : EvA ta σ H [.ref a]) (hx : H a = some (.tup xs)) (hz : xs.length ≤ 40000) (hw : ∀ x y, wipe (((wipe σ vs).set i (some x)).set j (some y)) vs = wipe σ vs)
    (he : ∀ (k : Nat) (x : V) H1, Ex H H1 → xs[k]? = some x → EvP te (((wipe σ vs).set i (some (.int (k : Nat)))).set j (some x)) H1 (g k)) :
    EvPl (tLc (iEnumT K ta) (gTup K 2 (gCons (gName i) (gCons (gName j) gNil))) tYes te vs) σ H ((List.range xs.length).map g) := fun H0 e Q q => h H0 e _ fun H1 e1 => ⟨a, xs, rfl, st_of ((e.trans e1) _ _ hx), fun Dl hD =>
  lc_it (walk_enumT (xs := xs)) (fun i H' => H1 Dl = none ∧ Ex H1 H' ∧ Ex H H' ∧ ∃ ys, H' Dl = some (.lst ys) ∧ ys.length = i ∧ DaAll H' ys ((List.range i).map g)) ⟨hD, Evl.Ex.new hD, (e.trans e1).trans (Evl.Ex.new hD), [], upd_same, rfl, .nil⟩ (fun i H' _ p => st_of (p.2.2.1 _ _ hx)) (fun k x H' H'' hk p y => by
    obtain ⟨T, x1, x2, rfl, nT, rfl, f1, f2⟩ := y
    obtain rfl : x1 = .int (k : Nat) := (Option.some.inj f1).symm
    refine ⟨T, _, rfl, .inl (.inl upd_same), rfl, _, _, rfl, _, _, rfl, rfl, hw _ _, ?_⟩
    have eT := Evl.Ex.new nT (o := .tup [V.int (k : Nat), x2])
    obtain ⟨p1, p2, p3, ys, p4, p5, p6⟩ := p
    show te _ _ _
    exact he k x2 _ (p3.trans eT) f2 _ (Evl.Ex.refl _) _ fun v H4 e4 dv => by
      have hl4 := e4 _ _ (eT _ _ p4)
      have eL := ExT.lst (o := .lst (ys ++ [v])) hl4
      have nl : noLAll ((List.range k).map g) = true := noLAll_of fun d hd => by
        obtain ⟨m, _, rfl⟩ := List.mem_map.mp hd
        exact hg m
      refine ⟨ys, hl4, sz_lt (by omega), p1, Evl.Ex.mut ((p2.trans eT).trans e4) p1, Evl.Ex.mut ((p3.trans eT).trans e4) (fresh_back (e.trans e1) p1), ys ++ [v], upd_same, by rw [List.length_append, p5]; rfl, ?_⟩
      rw [List.range_succ, List.map_append]
      exact (((p6.ex eT).ex e4).exT eL nl).app (.cons (dv.exT eL (hg k)) .nil)) (fun H' p => by
    obtain ⟨p1, p2, p3, ys, p4, p5, p6⟩ := p
    exact q Dl ys H' (e1.trans p2) (fresh_back e1 p1) p4 p6)⟩
theorem noLAll_app' {ds es : List PyData} (h : noLAll (ds ++ es) = true) : noLAll ds = true ∧ noLAll es = true := by
  induction ds with
  | nil => exact ⟨rfl, h⟩
  | cons d r ih =>
    have h' : (noL d && noLAll (r ++ es)) = true := h
    rw [Bool.and_eq_true] at h'
    refine ⟨?_, (ih h'.2).2⟩
    show (noL d && noLAll r) = true
    rw [h'.1, (ih h'.2).1]
    rfl
theorem noL_all {ds : List PyData} (h : noLAll ds = true) {d : PyData} (hd : d ∈ ds) : noL d = true := by
  induction ds with
  | nil => cases hd
  | cons x r ih =>
    have h' : (noL x && noLAll r) = true := h
    rw [Bool.and_eq_true] at h'
    rcases List.mem_cons.mp hd with rfl | hd
    · exact h'.1
    · exact ih h'.2 hd
theorem noL_code {d : PyData} (h : noL d = true) : noLAll (codeD d) = true := by
  unfold codeD
  cases e : bodyD d with
  | tuple bs =>
    have : noL (bodyD d) = true := by
      unfold bodyD
      split
      · have h' : (noL _ && (noL _ && (noL _ && true))) = true := h
        rw [Bool.and_eq_true, Bool.and_eq_true, Bool.and_eq_true] at h'
        exact h'.2.2.1
      · have h' : (noL _ && (noL _ && true)) = true := h
        rw [Bool.and_eq_true, Bool.and_eq_true] at h'
        exact h'.2.1
      · rfl
    rw [e] at this
    exact this
  | _ => rfl
theorem noL_body {w : Str} {i : Nat} {ds : List PyData} (h : noLAll ds = true) : noL (bodP (PyData.tuple [.str w, .int (i : Nat)], codeD (ds.getD i .none))) = true := by
  have z : noL (ds.getD i .none) = true := by
    rw [List.getD_eq_getElem?_getD]
    cases e : ds[i]? with
    | none => rfl
    | some d => exact noL_all h (List.mem_of_getElem? e)
  show (noL (.tuple [.str w, .int (i : Nat)]) && (noLAll (codeD (ds.getD i .none)) && true)) = true
  rw [noL_code z]
  rfl
def spBodies : Sp := fun vs H Q _ => ∃ (v : V) (us fns : List PyData), vs = [v] ∧ Da H v (.tuple [.tuple us, .tuple fns]) ∧ okProg (.tuple [.tuple us, .tuple fns]) = true ∧ noL (.tuple [.tuple us, .tuple fns]) = true ∧
  ∀ l ys H', Ex H H' → H l = none → H' l = some (.lst ys) → DaAll H' ys ((bodsD us fns).map bodP) → Q (.ref l) H'
theorem ok_bodies (T : TAcc K w.params mg) : Ok P w K mg base CX0 1 "_bodies" ["program"] spBodies := by
  refine T.d_bodies.ok sc__bodies bi__bodies (fun vs H Q E h => ?_) (fun cdv A outer s H f vs Q E hr h => ?_)
  · obtain ⟨v, us, fns, rfl, _⟩ := h
    rfl
  · obtain ⟨v, us, fns, rfl, hd, ok, nl, q⟩ := h
    refine ⟨_, (pss_cons (ps_asg (pv 0) (pg_tup rfl (pgs_cons (pg_name (i := 1) sc__bodies.nd rfl (Or.inl rfl)) (pgs_cons (pg_name (i := 2) sc__bodies.nd rfl (Or.inl rfl)) pgs_nil))))
    (pss_cons (ps_setLc (i := 3) (own := [("number", 4), ("function", 5)]) (g := gTup K 2 (gCons (gName 4) (gCons (gName 5) gNil))) rfl sc__bodies.nd rfl rfl (sw_true rfl rfl rfl (by decide +kernel)) (pi_enumT (by rfl) T.b_enumerate (pa_cons (pv 2) pa_nil)) (blkOk_by (N := N__bodies) (sc := defScope s__bodies) (by decide +kernel)) (fun _ _ _ _ _ => by exact (pg_tup rfl (pgs_cons (pg_name (i := 4) sc__bodies.nd rfl (Or.inl rfl)) (pgs_cons (pg_name (i := 5) sc__bodies.nd rfl (Or.inl rfl)) pgs_nil)))) (fun _ _ _ _ _ => pts_nil) (fun _ _ _ _ _ => (pe_tup (pa_cons (pe_tup (pa_cons pe_str (pa_cons (pv 4) pa_nil))) (pa_cons (pe_ix (ix_tupK (K := K) rfl) (pv 5) pe_int (fun _ _ => rfl)) pa_nil)))))
    (pss_one (ps_ret (pe_op op_cat (pv 3) (pe_lc (own := [("number", 4), ("unit", 6)]) (g := gTup K 2 (gCons (gName 4) (gCons (gName 6) gNil))) rfl sc__bodies.nd (pi_enumT (by rfl) T.b_enumerate (pa_cons (pv 1) pa_nil)) (blkOk_by (N := N__bodies) (sc := defScope s__bodies) (by decide +kernel)) (fun _ _ _ _ _ => by exact (pg_tup rfl (pgs_cons (pg_name (i := 4) sc__bodies.nd rfl (Or.inl rfl)) (pgs_cons (pg_name (i := 6) sc__bodies.nd rfl (Or.inl rfl)) pgs_nil)))) (fun _ _ _ _ _ => pts_nil) (fun _ _ _ _ _ => (pe_tup (pa_cons (pe_tup (pa_cons pe_str (pa_cons (pv 4) pa_nil))) (pa_cons (pe_ix (ix_tupK (K := K) rfl) (pv 6) pe_int (fun _ _ => rfl)) pa_nil)))))))))), ?_⟩
    obtain ⟨us', fns', e, u1, u6, f1, f4, hus, hfs⟩ := prog_parts ok
    cases e
    have nl' : (noLAll us && (noLAll fns && true)) = true := nl
    rw [Bool.and_eq_true, Bool.and_eq_true] at nl'
    obtain ⟨a, xs, rfl, ha, hds⟩ := Da.tupl hd
    cases hds with
    | @cons v1 r1 _ _ g1 hds =>
    cases hds with
    | @cons v2 r2 _ _ g2 hds =>
    cases hds
    obtain ⟨ua, uxs, rfl, hua, huds⟩ := Da.tupl g1
    obtain ⟨fa, fxs, rfl, hfa, hfds⟩ := Da.tupl g2
    have lu := huds.len
    have lf := hfds.len
    refine ⟨_, rfl, a, _, rfl, st_of ha, rfl, _, _, rfl, _, _, rfl, rfl, ?_⟩
    have e1 := el_lcED (K := K) (a := fa) (xs := fxs) (i := 4) (j := 5) (vs := [4, 5]) (ta := tCons (tVar 2) tNil) (te := tTup (tCons (tTup (tCons (tC (.str "function")) (tCons (tVar 4) tNil))) (tCons (tOp (rIxT K) (tVar 5) (tC (.int 1))) tNil)))
      (σ := [some (.ref a), some (.ref ua), some (.ref fa), none, none, none, none]) (H := H) (fun i => bodP (PyData.tuple [.str "function", .int (i : Nat)], codeD (fns.getD i .none))) (fun k => noL_body nl'.2.1) (ea_cons (ev_var rfl) ea_nil) hfa (by omega) (fun _ _ => rfl)
      (fun k x H1 x1 hk H2 x2 Q' q' => by
        obtain ⟨dk, hdk, ddk⟩ := (hfds.ex x1).at hk
        obtain ⟨u, bs, rfl, _⟩ := hfs k dk hdk
        refine ⟨_, rfl, sz_of (by show 2 ≤ 100000; decide), fun t1 nt1 => ?_⟩
        have x3 := x2.trans (Ex.new nt1 (o := .tup [.str "function", .int (k : Nat)]))
        obtain ⟨ka, kx, rfl, hka, hkx⟩ := Da.tupl (ddk.ex x3)
        obtain ⟨vi, hvi, dvi⟩ := hkx.of (i := 1) rfl
        refine ⟨_, rfl, ka, kx, 1, vi, rfl, rfl, st_of hka, atI_nat (j := 1) hvi, sz_of (by show 2 ≤ 100000; decide), fun t2 nt2 => ?_⟩
        refine q' _ _ ((Ex.new nt1).trans (Ex.new nt2)) ?_
        rw [getD_at hdk]
        exact .tup upd_same (.cons (.tup ((Ex.new nt2) _ _ upd_same) (.cons (.str _) (.cons (.int _) .nil))) (.cons (dvi.ex (Ex.new nt2)) .nil)))
    dsimp only
    refine q_asgPl e1 fun l1 y1 H2 x2 nl1 hl1 d1 => ?_
    have e2 := el_lcED (K := K) (a := ua) (xs := uxs) (i := 4) (j := 6) (vs := [4, 6]) (ta := tCons (tVar 1) tNil) (te := tTup (tCons (tTup (tCons (tC (.str "unit")) (tCons (tVar 4) tNil))) (tCons (tOp (rIxT K) (tVar 6) (tC (.int 2))) tNil)))
      (σ := [some (.ref a), some (.ref ua), some (.ref fa), some (.ref l1), none, none, none]) (H := H2) (fun i => bodP (PyData.tuple [.str "unit", .int (i : Nat)], codeD (us.getD i .none))) (fun k => noL_body nl'.1) (ea_cons (ev_var rfl) ea_nil) (x2 _ _ hua) (by omega) (fun _ _ => rfl)
      (fun k x H1 x1 hk H2' x2' Q' q' => by
        obtain ⟨dk, hdk, ddk⟩ := ((huds.ex x2).ex x1).at hk
        obtain ⟨pp, fz, bs, rfl, _⟩ := hus k dk hdk
        refine ⟨_, rfl, sz_of (by show 2 ≤ 100000; decide), fun t1 nt1 => ?_⟩
        have x3 := x2'.trans (Ex.new nt1 (o := .tup [.str "unit", .int (k : Nat)]))
        obtain ⟨ka, kx, rfl, hka, hkx⟩ := Da.tupl (ddk.ex x3)
        obtain ⟨vi, hvi, dvi⟩ := hkx.of (i := 2) rfl
        refine ⟨_, rfl, ka, kx, 2, vi, rfl, rfl, st_of hka, atI_nat (j := 2) hvi, sz_of (by show 2 ≤ 100000; decide), fun t2 nt2 => ?_⟩
        refine q' _ _ ((Ex.new nt1).trans (Ex.new nt2)) ?_
        rw [getD_at hdk]
        exact .tup upd_same (.cons (.tup ((Ex.new nt2) _ _ upd_same) (.cons (.str _) (.cons (.int _) .nil))) (.cons (dvi.ex (Ex.new nt2)) .nil)))
    refine ⟨_, rfl, ?_⟩
    refine e2 H2 (Ex.refl _) _ fun l2 y2 H3 x3 nl2 hl2 d2 => ?_
    have ly1 := d1.len
    have ly2 := d2.len
    rw [List.length_map, List.length_range] at ly1 ly2
    refine ⟨l1, l2, y1, y2, rfl, rfl, x3 _ _ hl1, hl2, sz_of (by omega), fun u nu => ?_⟩
    refine q u _ _ ((x2.trans x3).trans (Ex.new nu)) (fresh_back (x2.trans x3) nu) upd_same ?_
    have e : (bodsD us fns).map bodP = (List.range fxs.length).map (fun i => bodP (PyData.tuple [.str "function", .int (i : Nat)], codeD (fns.getD i .none))) ++ (List.range uxs.length).map (fun i => bodP (PyData.tuple [.str "unit", .int (i : Nat)], codeD (us.getD i .none))) := by
      unfold bodsD bodsN
      rw [List.map_append, List.map_map, List.map_map, lu, lf]
      rfl
    rw [e]
    exact ((d1.ex x3).app d2).ex (Ex.new nu)
end
end FW
set_option Elab.async false
set_option linter.all false
set_option maxRecDepth 100000
set_option maxHeartbeats 4000000
namespace FW
open PySem PySem.Spec PyProof.Rows L2
open Evl (pss_cut tCut)
open Evl (Ex Ev EvT EvA EvL EvU RC RV fresh_back ev_var ev_c ea_nil ea_cons ev_cb ev_op ev_is ev_andV ev_orV ev_notV et_test et_B et_and et_or et_not et_is s_ret s_when q_when q_asg q_asgL q_asgU rv_I0 rv_eq rv_ne rv_ixT rv_ixL)
/-! ### instructions, as they are looked at -/
def InsV (nf : Nat) (d : PyData) : Prop := ∃ (w : Str) (rs : List PyData), d = .tuple (.str w :: rs) ∧ (w = "write" ∨ w = "wake" → ∃ (u : Int) (r : List PyData), rs = .int u :: r) ∧ (w = "read" → ∃ (s : PyData) (u : Int) (r : List PyData), rs = s :: .int u :: r) ∧
  (w = "call" → ∃ (g : Nat) (r : List PyData), rs = .int (g : Int) :: r ∧ g < nf)
theorem one_int {rs : List PyData} {lo hi : Int} {n : Nat} (hl : rs.length = n) (hn : 0 < n) (h : isIn (rs.getD 0 .none) lo hi = true) : ∃ (u : Int) (r : List PyData), rs = .int u :: r ∧ lo ≤ u ∧ u ≤ hi := by
  cases rs with
  | nil => subst hl; cases hn
  | cons x r =>
    obtain ⟨u, e, h0, h1⟩ := isIn_int (d := x) h
    subst e
    exact ⟨u, r, rfl, h0, h1⟩
theorem ins_view {fs : List Int} {num : Option (Int × Int)} {pl : Int} {sz nf : Nat} {d : PyData} (h : okIns num.isSome (lmsOf fs num pl sz) fs d = true) (hn : ∀ own n, num = some (own, n) → 0 ≤ own ∧ n = (nf : Int)) : InsV nf d := by
  rw [← lawOne_eq] at h
  unfold lawOne at h
  split at h
  · rename_i w rs
    refine ⟨w, rs, rfl, fun hw => ?_, fun hw => ?_, fun hw => ?_⟩
    · rcases hw with rfl | rfl
      · have h' : (decide (rs.length = 3) && (lawFld fs (rs.getD 0 .none) (rs.getD 1 .none) && isIn (rs.getD 2 .none) 0 2)) = true := h
        rw [Bool.and_eq_true, Bool.and_eq_true, decide_eq_true_eq] at h'
        unfold lawFld at h'
        rw [Bool.and_eq_true] at h'
        obtain ⟨u, r, e, _⟩ := one_int h'.1 (by decide) h'.2.1.1
        exact ⟨u, r, e⟩
      · cases num with
        | none =>
          have h' : (decide (("wake" : Str) = "fail") && decide (rs.length = 0)) = true := h
          rw [decide_eq_false (by decide)] at h'
          cases h'
        | some on =>
          obtain ⟨own, n⟩ := on
          have h' : (decide (rs.length = 2) && (isIn (rs.getD 0 .none) 0 ((fs.length : Int) - 1) && isIn (rs.getD 1 .none) (pl + 1) (sz : Int))) = true := h
          rw [Bool.and_eq_true, Bool.and_eq_true, decide_eq_true_eq] at h'
          obtain ⟨u, r, e, _⟩ := one_int h'.1 (by decide) h'.2.1
          exact ⟨u, r, e⟩
    · subst hw
      have h' : (decide (rs.length = 3) && (isIn (rs.getD 0 .none) 0 2 && lawFld fs (rs.getD 1 .none) (rs.getD 2 .none))) = true := h
      rw [Bool.and_eq_true, Bool.and_eq_true, decide_eq_true_eq] at h'
      unfold lawFld at h'
      rw [Bool.and_eq_true] at h'
      match rs, h'.1, h'.2.2.1 with
      | [x, y, z], _, hy =>
        obtain ⟨u, e, _⟩ := isIn_int (d := y) hy
        subst e
        exact ⟨x, u, [z], rfl⟩
    · subst hw
      cases num with
      | none =>
        have h' : (decide (("call" : Str) = "fail") && decide (rs.length = 0)) = true := h
        rw [decide_eq_false (by decide)] at h'
        cases h'
      | some on =>
        obtain ⟨own, n⟩ := on
        have h' : (decide (rs.length = 1) && isIn (rs.getD 0 .none) (own + 1) (n - 1)) = true := h
        rw [Bool.and_eq_true, decide_eq_true_eq] at h'
        obtain ⟨u, r, e, h0, h1⟩ := one_int h'.1 (by decide) h'.2
        obtain ⟨a0, a1⟩ := hn own n rfl
        obtain ⟨g, rfl⟩ := Int.eq_ofNat_of_zero_le (show 0 ≤ u by omega)
        exact ⟨g, r, e, by omega⟩
  · cases h
structure BodV (nf : Nat) (b : PyData × List PyData) : Prop where
  len : b.2.length ≤ 8
  ins : ∀ d ∈ b.2, InsV nf d
  nl : noL b.1 = true
theorem bod_view {us fns : List PyData} (ok : okProg (.tuple [.tuple us, .tuple fns]) = true) : ∀ b ∈ bodsD us fns, BodV fns.length b := by
  obtain ⟨us', fns', e, u1, u6, f1, f4, hus, hfs⟩ := prog_parts ok
  cases e
  intro b hb
  unfold bodsD bodsN at hb
  rcases List.mem_append.mp hb with hb | hb
  · obtain ⟨i, hi, rfl⟩ := List.mem_map.mp hb
    have hi := List.mem_range.mp hi
    obtain ⟨u, bs, e, _, _, b1, b8, hbs⟩ := hfs i _ (List.getElem?_eq_getElem hi)
    rw [getD_at (List.getElem?_eq_getElem hi), e]
    refine ⟨b8, fun d hd => ?_, rfl⟩
    obtain ⟨j, hj⟩ := List.getElem?_of_mem hd
    have z := hbs j d hj
    exact ins_view (num := some ((i : Nat), (fns.length : Nat))) (fs := us.map fieldsD) (pl := (j : Nat)) (sz := bs.length) (by
      show okIns true (limsF (us.map fieldsD).length bs.length (i : Nat) (fns.length : Nat) (j : Nat)) (us.map fieldsD) d = true
      rw [List.length_map]
      exact z) (fun own n e => by cases e; exact ⟨by omega, rfl⟩)
  · obtain ⟨i, hi, rfl⟩ := List.mem_map.mp hb
    have hi := List.mem_range.mp hi
    obtain ⟨p, fz, is, e, _, _, i6, his, _⟩ := hus i _ (List.getElem?_eq_getElem hi)
    rw [getD_at (List.getElem?_eq_getElem hi), e]
    refine ⟨by show is.length ≤ 8; omega, fun d hd => ?_, rfl⟩
    rw [List.all_eq_true] at his
    exact ins_view (num := none) (fs := us.map fieldsD) (pl := 0) (sz := 0) (by
      show okIns false (limsI (us.map fieldsD).length) (us.map fieldsD) d = true
      rw [List.length_map]
      exact his d hd) (fun own n e => by cases e)
def spotsN (nm : PyData) (bs : List PyData) (j : Nat) : List PyData := ((List.range j).filter fun j => isAcc (bs.getD j .none)).map fun j => PyData.tuple [nm, .int (j : Nat)]
theorem spotsN_yes {nm : PyData} {bs : List PyData} {j : Nat} (h : isAcc (bs.getD j .none) = true) : spotsN nm bs (j + 1) = spotsN nm bs j ++ [PyData.tuple [nm, .int (j : Nat)]] := by
  unfold spotsN
  rw [List.range_succ, List.filter_append, List.filter_cons, if_pos h, List.map_append]
  rfl
theorem spotsN_no {nm : PyData} {bs : List PyData} {j : Nat} (h : isAcc (bs.getD j .none) = false) : spotsN nm bs (j + 1) = spotsN nm bs j := by
  unfold spotsN
  rw [List.range_succ, List.filter_append, List.filter_cons, if_neg (by rw [h]; exact Bool.false_ne_true), List.filter_nil, List.append_nil]
theorem spotsN_nl {nm : PyData} {bs : List PyData} {j : Nat} (h : noL nm = true) : noLAll (spotsN nm bs j) = true := noLAll_of fun d hd => by
  obtain ⟨m, _, rfl⟩ := List.mem_map.mp hd
  show (noL nm && true) = true
  rw [h]
  rfl
theorem spotsN_len {nm : PyData} {bs : List PyData} {j : Nat} : (spotsN nm bs j).length ≤ j := by
  unfold spotsN
  rw [List.length_map]
  have := List.length_filter_le (fun j => isAcc (bs.getD j .none)) (List.range j)
  rw [List.length_range] at this
  exact this
def accN (bods : List (PyData × List PyData)) (i : Nat) : List PyData := ((bods.take i).map fun b => spots b.1 b.2).flatten
theorem accN_succ {bods : List (PyData × List PyData)} {i : Nat} {b : PyData × List PyData} (h : bods[i]? = some b) : accN bods (i + 1) = accN bods i ++ spotsN b.1 b.2 b.2.length := by
  unfold accN
  rw [List.take_add_one, h]
  show ((List.take i bods ++ [b]).map fun b => spots b.1 b.2).flatten = _
  rw [List.map_append, List.flatten_append]
  show _ ++ (spots b.1 b.2 ++ []) = _
  rw [List.append_nil]
  rfl
theorem accN_all {bods : List (PyData × List PyData)} : accN bods bods.length = (bods.map fun b => spots b.1 b.2).flatten := by
  unfold accN
  rw [List.take_length]
theorem accN_nl {bods : List (PyData × List PyData)} (h : ∀ b ∈ bods, noL b.1 = true) : ∀ i, noLAll (accN bods i) = true
  | 0 => rfl
  | i + 1 => by
    cases e : bods[i]? with
    | none =>
      have hl := List.getElem?_eq_none_iff.mp e
      have : accN bods (i + 1) = accN bods i := by
        unfold accN
        rw [List.take_of_length_le (by omega), List.take_of_length_le hl]
      rw [this]
      exact accN_nl h i
    | some b =>
      rw [accN_succ e]
      exact noLAll_app (accN_nl h i) (spotsN_nl (h b (List.mem_of_getElem? e)))
theorem accN_len {bods : List (PyData × List PyData)} (h : ∀ b ∈ bods, b.2.length ≤ 8) : ∀ i, (accN bods i).length ≤ 8 * i
  | 0 => Nat.le_refl _
  | i + 1 => by
    cases e : bods[i]? with
    | none =>
      have hl := List.getElem?_eq_none_iff.mp e
      have : accN bods (i + 1) = accN bods i := by
        unfold accN
        rw [List.take_of_length_le (by omega), List.take_of_length_le hl]
      rw [this]
      have := accN_len h i
      omega
    | some b =>
      rw [accN_succ e, List.length_append]
      have := accN_len h i
      have := spotsN_len (nm := b.1) (bs := b.2) (j := b.2.length)
      have := h b (List.mem_of_getElem? e)
      omega
theorem inV4 {w a b c d : Str} : inV (.str w) [.str a, .str b, .str c, .str d] = decide (w = a ∨ w = b ∨ w = c ∨ w = d) := by
  show ((a == w) || ((b == w) || ((c == w) || ((d == w) || false)))) = _
  have z : ∀ x : Str, (x == w) = decide (w = x) := fun x => by
    by_cases h : w = x
    · subst h
      simp
    · rw [decide_eq_false h]
      exact beq_eq_false_iff_ne.mpr fun e => h e.symm
  rw [z, z, z, z, Bool.or_false, Bool.decide_or, Bool.decide_or, Bool.decide_or]
section
variable {P : Program} {w : World} {K : PySem.W.Frag} {mg : Str → Option Value} {base : Heap}
def spSpots : Sp := fun vs H Q _ => ∃ (v : V) (wa : Addr) (us fns : List PyData), vs = [v, .ref wa] ∧ H wa = some (.tup [.str "read", .str "write", .str "call", .str "wake"]) ∧ Da H v (.tuple [.tuple us, .tuple fns]) ∧ okProg (.tuple [.tuple us, .tuple fns]) = true ∧ noL (.tuple [.tuple us, .tuple fns]) = true ∧
  ∀ l ys H', Ex H H' → H l = none → H' l = some (.lst ys) → DaAll H' ys (accD (.tuple [.tuple us, .tuple fns])) → Q (.ref l) H'
theorem ok_spots (T : TAcc K w.params mg) : Ok P w K mg base CX0 2 "_spots_where" ["program", "words"] spSpots := by
  have G__bodies : Ok P w K mg base CX0 1 "_bodies" ["program"] spBodies := ok_bodies T
  refine T.d_spots.ok sc__spots_where bi__spots_where (fun vs H Q E h => ?_) (fun cdv A outer s H f vs Q E hr h => ?_)
  · obtain ⟨v, wa, us, fns, rfl, _⟩ := h
    rfl
  · obtain ⟨v, wa, us, fns, rfl, hwa, hd, ok, nl, q⟩ := h
    refine ⟨_, (pss_one (ps_ret (pe_lc2 (own := [("body", 2), ("code", 3), ("place", 4), ("instruction", 5)]) (vs1 := [4, 5]) (g := gTup K 2 (gCons (gName 2) (gCons (gName 3) gNil))) (g1 := gTup K 2 (gCons (gName 4) (gCons (gName 5) gNil))) rfl sc__spots_where.nd (pi_list (pe_callO G__bodies (hr.mono (by decide)) (pa_cons (pv 0) pa_nil))) (blkOk_by (N := N__spots_where) (sc := defScope s__spots_where) (by decide +kernel)) (by decide) (fun _ _ _ _ _ => by exact (pg_tup rfl (pgs_cons (pg_name (i := 2) sc__spots_where.nd rfl (Or.inl rfl)) (pgs_cons (pg_name (i := 3) sc__spots_where.nd rfl (Or.inl rfl)) pgs_nil)))) (fun _ _ _ _ _ => pts_nil) (fun _ _ _ _ _ => (pi_enumTK (K := K) rfl (by rfl) T.b_enumerate (pa_cons (pv 3) pa_nil))) (fun _ _ _ _ _ => by exact (pg_tup rfl (pgs_cons (pg_name (i := 4) sc__spots_where.nd rfl (Or.inl rfl)) (pgs_cons (pg_name (i := 5) sc__spots_where.nd rfl (Or.inl rfl)) pgs_nil)))) (fun _ _ _ _ _ => (pts_one (pt_cmpR (op_inK (K := K) rfl) (pe_ix (ix_tupK (K := K) rfl) (pv 5) pe_int (fun _ _ => rfl)) (pv 1) (by rfl)))) (fun _ _ _ _ _ => (pe_tup (pa_cons (pv 2) (pa_cons (pv 4) pa_nil))))))), ?_⟩
    have bv := bod_view ok
    have bnl : ∀ i, noLAll (accN (bodsD us fns) i) = true := accN_nl fun b hb => (bv b hb).nl
    have bln : ∀ i, (accN (bodsD us fns) i).length ≤ 8 * i := accN_len fun b hb => (bv b hb).len
    have bl10 : (bodsD us fns).length ≤ 10 := by
      obtain ⟨us', fns', e, u1, u6, f1, f4, _⟩ := prog_parts ok
      cases e
      unfold bodsD bodsN
      rw [List.length_append, List.length_map, List.length_map, List.length_range, List.length_range]
      omega
    refine ⟨_, rfl, _, us, fns, rfl, hd, ok, nl, fun bl bys H1 x1 nbl hbl db => ⟨bl, rfl, ⟨bys, sl_of hbl⟩, fun Dl hD => ?_⟩⟩
    have lbys := db.len
    rw [List.length_map] at lbys
    refine it_it (walk_list (xs := bys)) (fun i H' => Ex H1 H' ∧ ∃ ys, H' Dl = some (.lst ys) ∧ DaAll H' ys (accN (bodsD us fns) i)) ⟨Ex.new hD, [], upd_same, .nil⟩ (fun i H' _ p => sl_of (p.1 _ _ hbl)) ?_ ?_
    · rintro i x H' H'' hi ⟨xi, ys, hys, dys⟩ ⟨rfl, hx⟩
      obtain ⟨bd, hbd, ddb⟩ := db.at hx
      rw [List.getElem?_map] at hbd
      obtain ⟨b, hb, rfl⟩ := Option.map_eq_some_iff.mp hbd
      have B := bv b (List.mem_of_getElem? hb)
      obtain ⟨t, tx, rfl, ht, htx⟩ := Da.tupl ddb
      cases htx with
      | @cons v1 r1 _ _ g1 htx =>
      cases htx with
      | @cons v2 r2 _ _ g2 htx =>
      cases htx
      obtain ⟨ca, cxs, rfl, hca, hcs⟩ := Da.tupl g2
      have lc := hcs.len
      refine ⟨t, _, rfl, st_of (xi _ _ ht), rfl, _, _, rfl, _, _, rfl, rfl, rfl, ?_⟩
      refine ⟨_, rfl, ca, cxs, rfl, st_of (xi _ _ hca), ?_⟩
      refine it_it walk_enumT (fun j H' => Ex H1 H' ∧ ∃ ys, H' Dl = some (.lst ys) ∧ DaAll H' ys (accN (bodsD us fns) i ++ spotsN b.1 b.2 j)) ⟨xi, ys, hys, by rw [show spotsN b.1 b.2 0 = [] from rfl, List.append_nil]; exact dys⟩ (fun j H' _ p => st_of (p.1 _ _ hca)) ?_ ?_
      · rintro j x H2 H3 hj ⟨x2, ys2, hy2, dy2⟩ ⟨T2, z1, z2, rfl, nT2, rfl, f1, f2⟩
        obtain rfl : z1 = .int (j : Nat) := (Option.some.inj f1).symm
        have eT := Ex.new nT2 (o := .tup [V.int (j : Nat), z2])
        obtain ⟨dk, hdk, ddk⟩ := (hcs.ex (x2.trans eT)).at f2
        obtain ⟨wd, rs, rfl, _⟩ := B.ins dk (List.mem_of_getElem? hdk)
        obtain ⟨ia, ix, rfl, hia, hix⟩ := Da.tupl ddk
        cases hix with
        | @cons w1 r1 _ _ k1 hix =>
        cases k1
        refine ⟨T2, _, rfl, .inl (.inl upd_same), rfl, _, _, rfl, _, _, rfl, rfl, rfl, ?_⟩
        have hDl3 := eT _ _ hy2
        have dy3 := dy2.ex eT
        have xA := x1.trans (x2.trans eT)
        have hb1 : Da (upd H2 T2 (.tup [V.int (j : Nat), .ref ia])) v1 b.1 := g1.ex (x2.trans eT)
        generalize upd H2 T2 (.tup [V.int (j : Nat), .ref ia]) = H4 at eT hDl3 dy3 xA hia hb1 ⊢
        have ea : isAcc (b.2.getD j .none) = decide (wd = "read" ∨ wd = "write" ∨ wd = "call" ∨ wd = "wake") := by
          rw [getD_at hdk]
          rfl
        refine (et_is (b := isAcc (b.2.getD j .none)) (et_test (ev_op (ev_op (ev_var rfl) ev_c (rv_ixT (st_of hia) (atI_nat (j := 0) rfl))) (ev_var rfl) (Evl.rv_inT (K := K) (neg := false) (st_of (xA _ _ hwa)) rfl rfl))) (by rw [if_neg (by decide), ea]; exact inV4)) H4 (Ex.refl _) _ fun H5 x5 => ?_
        have hDl5 := x5 _ _ hDl3
        have dy5 := dy3.ex x5
        have nlA : noLAll (accN (bodsD us fns) i ++ spotsN b.1 b.2 j) = true := noLAll_app (bnl i) (spotsN_nl B.nl)
        have lA : ys2.length ≤ 8 * i + j := by
          rw [dy2.len, List.length_append]
          have := bln i
          have := spotsN_len (nm := b.1) (bs := b.2) (j := j)
          omega
        have Bl := B.len
        refine ite2 (fun hb => ?_) (fun hb => ?_)
        · refine ⟨_, rfl, _, rfl, sz_of (by show 2 ≤ 100000; decide), fun a na => ?_⟩
          have hDl6 := (Ex.new na (o := .tup [v1, .int (j : Nat)])) _ _ hDl5
          have eL := ExT.lst (o := .lst (ys2 ++ [.ref a])) hDl6
          refine ⟨ys2, hDl6, sz_lt (by omega), Evl.Ex.mut ((x2.trans (eT.trans x5)).trans (Ex.new na)) hD, ys2 ++ [.ref a], upd_same, ?_⟩
          rw [spotsN_yes hb, ← List.append_assoc]
          exact ((dy5.ex (Ex.new na)).exT eL nlA).app (.cons (Da.exT eL (by show (noL b.1 && true) = true; rw [B.nl]; rfl) (.tup upd_same (.cons ((hb1.ex x5).ex (Ex.new na)) (.cons (.int _) .nil)))) .nil)
        · rw [spotsN_no (by simpa using hb)]
          exact ⟨x2.trans (eT.trans x5), ys2, hDl5, dy5⟩
      · rintro H2 ⟨x2, ys2, hy2, dy2⟩
        rw [lc, ← accN_succ hb] at dy2
        exact ⟨x2, ys2, hy2, dy2⟩
    · rintro H' ⟨xi, ys, hys, dys⟩
      rw [lbys, accN_all] at dys
      exact q Dl ys H' (x1.trans xi) (fresh_back x1 hD) hys dys
end
end FW
set_option Elab.async false
set_option linter.all false
set_option maxRecDepth 100000
set_option maxHeartbeats 4000000
namespace FW
open PySem PySem.Spec PyProof.Rows L2
open Evl (pss_cut tCut)
open Evl (Ex Ev EvT EvA EvL EvU RC RV fresh_back ev_var ev_c ea_nil ea_cons ev_cb ev_op ev_is ev_andV ev_orV ev_notV et_test et_B et_and et_or et_not et_is s_ret s_when q_when q_asg q_asgL q_asgU rv_I0 rv_eq rv_ne rv_ixT rv_ixL)
section
variable {P : Program} {w : World} {K : PySem.W.Frag} {mg : Str → Option Value} {base : Heap}
theorem noL_prog {d : PyData} (ok : okProg d = true) (nl : noL d = true) : noL d = true := nl
def spAcc : Sp := fun vs H Q _ => ∃ (v : V) (d : PyData), vs = [v] ∧ Da H v d ∧ okProg d = true ∧ noL d = true ∧ ∀ l ys H', Ex H H' → H l = none → H' l = some (.lst ys) → DaAll H' ys (accD d) → Q (.ref l) H'
theorem ok_accesses (T : TAcc K w.params mg) : Ok P w K mg base CX0 8 "accesses" ["program"] spAcc := by
  have G_need_program : Ok P w K mg base CX0 7 "need_program" ["program"] spNeedP := ok_need_program T
  have G__spots_where : Ok P w K mg base CX0 2 "_spots_where" ["program", "words"] spSpots := ok_spots T
  obtain ⟨ca, gC, hC⟩ := T.k_CHECKED
  refine T.d_accesses.ok sc_accesses bi_accesses (fun vs H Q E h => ?_) (fun cdv A outer s H f vs Q E hr h => ?_)
  · obtain ⟨v, d, rfl, _⟩ := h
    rfl
  · obtain ⟨v, d, rfl, hd, ok, nl, q⟩ := h
    refine ⟨_, (pss_cons (ps_expr (pe_callO G_need_program (hr.mono (by decide)) (pa_cons (pv 0) pa_nil)))
    (pss_one (ps_ret (pe_callO G__spots_where (hr.mono (by decide)) (pa_cons (pv 0) (pa_cons (pe_op op_catT (pe_refg gC) (pe_tup (pa_cons pe_str pa_nil))) pa_nil)))))), ?_⟩
    obtain ⟨us, fns, rfl, _⟩ := prog_parts ok
    refine ⟨_, rfl, v, _, rfl, hd, ok, fun H1 x1 => ?_⟩
    refine ⟨_, rfl, sz_of (by show 1 ≤ 100000; decide), fun t nt => ?_⟩
    refine ⟨ca, t, _, _, rfl, rfl, hC _, st_of upd_same, (fun z => by cases z), sz_of (by show 4 ≤ 100000; decide), (fun z => by cases z), fun _ wa nwa => ?_⟩
    have xx := (Ex.new nt (o := .tup [.str "wake"])).trans (Ex.new nwa (o := .tup ([V.str "read", .str "write", .str "call"] ++ [.str "wake"])))
    refine ⟨v, wa, us, fns, rfl, upd_same, hd.ex (x1.trans xx), ok, nl, fun l ys H' x' nl' hl dl => ?_⟩
    exact q l ys H' ((x1.trans xx).trans x') (fresh_back (x1.trans xx) nl') hl dl
/-! #### the law's -/
def bodOf (us fns : List PyData) (wd : Str) (i : Nat) : List PyData := codeD ((if wd = "unit" then us else fns).getD i .none)
def spBody : Sp := fun vs H Q _ => ∃ (v : V) (nm : Addr) (us fns : List PyData) (wd : Str) (i : Nat), vs = [v, .ref nm] ∧ Da H v (.tuple [.tuple us, .tuple fns]) ∧ okProg (.tuple [.tuple us, .tuple fns]) = true ∧ H nm = some (.tup [.str wd, .int (i : Nat)]) ∧
  i < (if wd = "unit" then us else fns).length ∧ ∀ ba bx H', Ex H H' → H' ba = some (.tup bx) → DaAll H' bx (bodOf us fns wd i) → Q (.ref ba) H'
theorem ok_body (T : TAcc K w.params mg) : Ok P w K mg base CX0 1 "_law_body" ["program", "name"] spBody := by
  refine T.d_body.ok sc__law_body bi__law_body (fun vs H Q E h => ?_) (fun cdv A outer s H f vs Q E hr h => ?_)
  · obtain ⟨v, nm, us, fns, wd, i, rfl, _⟩ := h
    rfl
  · obtain ⟨v, nm, us, fns, wd, i, rfl, hd, ok, hnm, hi, q⟩ := h
    refine ⟨_, (pss_one (ps_ret (pe_ifExp (pt_cmpR op_eq (pe_ix ix_tup (pv 1) pe_int (fun _ _ => rfl)) pe_str (nomark _)) (pe_ix ix_tup (pe_ix ix_tup (pe_ix ix_tup (pv 0) pe_int (fun _ _ => rfl)) (pe_ix ix_tup (pv 1) pe_int (fun _ _ => rfl)) (fun _ _ => rfl)) pe_int (fun _ _ => rfl)) (pe_ix ix_tup (pe_ix ix_tup (pe_ix ix_tup (pv 0) pe_int (fun _ _ => rfl)) (pe_ix ix_tup (pv 1) pe_int (fun _ _ => rfl)) (fun _ _ => rfl)) pe_int (fun _ _ => rfl))))), ?_⟩
    obtain ⟨us', fns', e, u1, u6, f1, f4, hus, hfs⟩ := prog_parts ok
    cases e
    obtain ⟨a, xs, rfl, ha, hds⟩ := Da.tupl hd
    cases hds with
    | @cons v1 r1 _ _ g1 hds =>
    cases hds with
    | @cons v2 r2 _ _ g2 hds =>
    cases hds
    obtain ⟨ua, uxs, rfl, hua, huds⟩ := Da.tupl g1
    obtain ⟨fa, fxs, rfl, hfa, hfds⟩ := Da.tupl g2
    refine (et_is (b := decide (wd = "unit")) (et_test (ev_op (ev_op (ev_var rfl) ev_c (rv_ixT (st_of hnm) (atI_nat (j := 0) rfl))) ev_c (rv_eq rfl))) dec_str) H (Ex.refl _) _ fun H1 x1 => ?_
    refine ite2 (fun hb => ?_) (fun hb => ?_)
    · have hw := of_decide_eq_true hb
      rw [if_pos hw] at hi
      obtain ⟨p, fz, is, e, _⟩ := hus i _ (List.getElem?_eq_getElem hi)
      obtain ⟨vk, hvk, dvk⟩ := (huds.ex x1).of (List.getElem?_eq_getElem hi)
      rw [e] at dvk
      obtain ⟨ka, kx, rfl, hka, hkx⟩ := Da.tupl dvk
      obtain ⟨vb, hvb, dvb⟩ := hkx.of (i := 2) rfl
      obtain ⟨ba, bx, rfl, hba, hbx⟩ := Da.tupl dvb
      refine ⟨_, rfl, a, _, 0, .ref ua, rfl, rfl, st_of (x1 _ _ ha), atI_nat (j := 0) rfl, _, rfl, nm, _, 1, .int (i : Nat), rfl, rfl, st_of (x1 _ _ hnm), atI_nat (j := 1) rfl, ua, uxs, (i : Nat), .ref ka, rfl, rfl, st_of (x1 _ _ hua), atI_nat hvk, ka, kx, 2, .ref ba, rfl, rfl, st_of hka, atI_nat (j := 2) hvb, ?_⟩
      refine q ba bx H1 x1 hba ?_
      unfold bodOf
      rw [if_pos hw, getD_at (List.getElem?_eq_getElem hi), e]
      exact hbx
    · have hw : ¬ wd = "unit" := fun z => hb (decide_eq_true z)
      rw [if_neg hw] at hi
      obtain ⟨u, bs, e, _⟩ := hfs i _ (List.getElem?_eq_getElem hi)
      obtain ⟨vk, hvk, dvk⟩ := (hfds.ex x1).of (List.getElem?_eq_getElem hi)
      rw [e] at dvk
      obtain ⟨ka, kx, rfl, hka, hkx⟩ := Da.tupl dvk
      obtain ⟨vb, hvb, dvb⟩ := hkx.of (i := 1) rfl
      obtain ⟨ba, bx, rfl, hba, hbx⟩ := Da.tupl dvb
      refine ⟨_, rfl, a, _, 1, .ref fa, rfl, rfl, st_of (x1 _ _ ha), atI_nat (j := 1) rfl, _, rfl, nm, _, 1, .int (i : Nat), rfl, rfl, st_of (x1 _ _ hnm), atI_nat (j := 1) rfl, fa, fxs, (i : Nat), .ref ka, rfl, rfl, st_of (x1 _ _ hfa), atI_nat hvk, ka, kx, 1, .ref ba, rfl, rfl, st_of hka, atI_nat (j := 1) hvb, ?_⟩
      refine q ba bx H1 x1 hba ?_
      unfold bodOf
      rw [if_neg hw, getD_at (List.getElem?_eq_getElem hi), e]
      exact hbx
def spUnitOf : Sp := fun vs H Q _ => ∃ (v o : V) (us fns : List PyData) (d : PyData), vs = [v, o] ∧ Da H v (.tuple [.tuple us, .tuple fns]) ∧ okProg (.tuple [.tuple us, .tuple fns]) = true ∧ Da H o d ∧ InsV fns.length d ∧
  ∀ r H', Ex H H' → decide (r = V.non) = !isAcc d → Q r H'
theorem ok_unit_of (T : TAcc K w.params mg) : Ok P w K mg base CX0 1 "_law_unit_of" ["program", "one"] spUnitOf := by
  refine T.d_unit_of.ok sc__law_unit_of bi__law_unit_of (fun vs H Q E h => ?_) (fun cdv A outer s H f vs Q E hr h => ?_)
  · obtain ⟨v, o, us, fns, d, rfl, _⟩ := h
    rfl
  · obtain ⟨v, o, us, fns, d, rfl, hd, ok, ho, hv, q⟩ := h
    refine ⟨_, (pss_cons (ps_if (pt_cmpR op_in_seq (pe_ix ix_tup (pv 1) pe_int (fun _ _ => rfl)) (pe_tup (pa_cons pe_str (pa_cons pe_str pa_nil))) (by rfl)) (pss_one (ps_ret (pe_ix ix_tup (pv 1) pe_int (fun _ _ => rfl)))) pss_nil)
    (pss_cons (ps_if (pt_cmpR op_eq (pe_ix ix_tup (pv 1) pe_int (fun _ _ => rfl)) pe_str (nomark _)) (pss_one (ps_ret (pe_ix ix_tup (pv 1) pe_int (fun _ _ => rfl)))) pss_nil)
    (pss_one (ps_ret (pe_ifExp (pt_cmpR op_eq (pe_ix ix_tup (pv 1) pe_int (fun _ _ => rfl)) pe_str (nomark _)) (pe_ix ix_tup (pe_ix ix_tup (pe_ix ix_tup (pv 0) pe_int (fun _ _ => rfl)) (pe_ix ix_tup (pv 1) pe_int (fun _ _ => rfl)) (fun _ _ => rfl)) pe_int (fun _ _ => rfl)) pe_non))))), ?_⟩
    obtain ⟨us', fns', e, u1, u6, f1, f4, hus, hfs⟩ := prog_parts ok
    cases e
    obtain ⟨wd, rs, rfl, hww, hwr, hwc⟩ := hv
    obtain ⟨a, xs, rfl, ha, hxs⟩ := Da.tupl ho
    cases hxs with
    | @cons y1 r1 _ _ k1 hxs =>
    cases k1
    have W : ∀ {H1 : Hp}, Ex H H1 → Ev (tOp (rIxT K) (tVar 1) (tC (.int 0))) [some v, some (.ref a)] H1 (.str wd) := fun x => ev_op (ev_var rfl) ev_c (rv_ixT (st_of (x _ _ ha)) (atI_nat (j := 0) rfl))
    have acc : isAcc (.tuple (.str wd :: rs)) = decide (wd = "read" ∨ wd = "write" ∨ wd = "call" ∨ wd = "wake") := rfl
    refine q_when (b := decide (wd = "write" ∨ wd = "wake")) (et_is (et_test (Evl.ev_inU (W (Ex.refl _)) (Evl.eu_tup (ea_cons ev_c (ea_cons ev_c ea_nil)) (by show 2 ≤ 100000; decide)) rfl rfl)) inV2) (fun hb H1 x1 => ?_) (fun hb H1 x1 => ?_)
    · have hw := of_decide_eq_true hb
      obtain ⟨u, r, rfl⟩ := hww hw
      obtain ⟨v1, hv1, dv1⟩ := (hxs.ex x1).of (i := 0) rfl
      cases dv1
      refine s_ret (ev_op (ev_var rfl) ev_c (rv_ixT (st_of (x1 _ _ ha)) (atI_nat (j := 1) hv1))) fun H2 x2 => q _ H2 (x1.trans x2) ?_
      rw [show isAcc (.tuple (.str wd :: .int u :: r)) = true from acc.trans (decide_eq_true (by rcases hw with h | h <;> simp [h]))]
      exact decide_eq_false fun z => by cases z
    have n1 := of_decide_eq_false hb
    refine q_when (b := decide (wd = "read")) (et_is (et_test (ev_op (W x1) ev_c (rv_eq rfl))) dec_str) (fun hb H2 x2 => ?_) (fun hb H2 x2 => ?_)
    · have hw := of_decide_eq_true hb
      obtain ⟨s0, u, r, rfl⟩ := hwr hw
      have x12 := x1.trans x2
      obtain ⟨v1, hv1, dv1⟩ := (hxs.ex x12).of (i := 1) rfl
      cases dv1
      refine s_ret (ev_op (ev_var rfl) ev_c (rv_ixT (st_of (x12 _ _ ha)) (atI_nat (j := 2) hv1))) fun H3 x3 => q _ H3 (x12.trans x3) ?_
      rw [show isAcc (.tuple (.str wd :: s0 :: .int u :: r)) = true from acc.trans (decide_eq_true (.inl hw))]
      exact decide_eq_false fun z => by cases z
    have n2 := of_decide_eq_false hb
    have x12 := x1.trans x2
    refine (et_is (b := decide (wd = "call")) (et_test (ev_op (W x12) ev_c (rv_eq rfl))) dec_str) H2 (Ex.refl _) _ fun H3 x3 => ?_
    have x13 := x12.trans x3
    refine ite2 (fun hb => ?_) (fun hb => ?_)
    · have hw := of_decide_eq_true hb
      obtain ⟨g, r, rfl, hg⟩ := hwc hw
      obtain ⟨v1, hv1, dv1⟩ := (hxs.ex x13).of (i := 0) rfl
      cases dv1
      obtain ⟨pa, pxs, rfl, hpa, hpds⟩ := Da.tupl (hd.ex x13)
      cases hpds with
      | @cons p1 q1 _ _ g1 hpds =>
      cases hpds with
      | @cons p2 q2 _ _ g2 hpds =>
      obtain ⟨fa, fxs, rfl, hfa, hfds⟩ := Da.tupl g2
      obtain ⟨u, bs, e, _⟩ := hfs g _ (List.getElem?_eq_getElem hg)
      obtain ⟨vk, hvk, dvk⟩ := hfds.of (List.getElem?_eq_getElem hg)
      rw [e] at dvk
      obtain ⟨ka, kx, rfl, hka, hkx⟩ := Da.tupl dvk
      cases hkx with
      | @cons z1 r1 _ _ m1 hkx =>
      cases m1
      refine ⟨_, rfl, pa, _, 1, .ref fa, rfl, rfl, st_of hpa, atI_nat (j := 1) rfl, _, rfl, a, _, 1, .int (g : Nat), rfl, rfl, st_of (x13 _ _ ha), atI_nat (j := 1) hv1, fa, fxs, (g : Nat), .ref ka, rfl, rfl, st_of hfa, atI_nat hvk, ka, _, 0, .int u, rfl, rfl, st_of hka, atI_nat (j := 0) rfl, ?_⟩
      refine q _ H3 x13 ?_
      rw [show isAcc (.tuple (.str wd :: .int (g : Int) :: r)) = true from acc.trans (decide_eq_true (.inr (.inr (.inl hw))))]
      exact decide_eq_false fun z => by cases z
    · have n3 : ¬ wd = "call" := fun z => hb (decide_eq_true z)
      refine q _ H3 x13 ?_
      have nn : ¬ (wd = "read" ∨ wd = "write" ∨ wd = "call" ∨ wd = "wake") := by
        rintro (h | h | h | h)
        · exact n2 h
        · exact n1 (.inl h)
        · exact n3 h
        · exact n1 (.inr h)
      rw [show isAcc (.tuple (.str wd :: rs)) = false from acc.trans (decide_eq_false nn)]
      rfl
end
end FW
set_option Elab.async false
set_option linter.all false
set_option maxRecDepth 100000
set_option maxHeartbeats 4000000
namespace FW
open PySem PySem.Spec PyProof.Rows L2
open Evl (pss_cut tCut)
open Evl (Ex Ev EvT EvA EvL EvU RC RV fresh_back ev_var ev_c ea_nil ea_cons ev_cb ev_op ev_is ev_andV ev_orV ev_notV et_test et_B et_and et_or et_not et_is s_ret s_when q_when q_asg q_asgL q_asgU rv_I0 rv_eq rv_ne rv_ixT rv_ixL)
section
variable {P : Program} {w : World} {K : PySem.W.Frag} {mg : Str → Option Value} {base : Heap}
theorem el_lcLP {σ : L2.St} {H : Hp} {te tx : TE} {a : Addr} {xs : List V} {j : Nat} {vs : List Nat} (g : Nat → PyData) (hg : ∀ k, noL (g k) = true) (h : Ev tx σ H (.ref a)) (hx : H a = some (.lst xs)) (hz : xs.length ≤ 40000) (hw : ∀ x, wipe ((wipe σ vs).set j (some x)) vs = wipe σ vs)
    (he : ∀ (k : Nat) (x : V) H1, Ex H H1 → xs[k]? = some x → EvP te ((wipe σ vs).set j (some x)) H1 (g k)) :
    EvPl (tLc (iList K tx) (gName j) tYes te vs) σ H ((List.range xs.length).map g) := fun H0 e Q q => h H0 e _ fun H1 e1 => ⟨a, rfl, ⟨xs, sl_of ((e.trans e1) _ _ hx)⟩, fun Dl hD =>
  lc_it (walk_list (xs := xs)) (fun i H' => H1 Dl = none ∧ Ex H1 H' ∧ Ex H H' ∧ ∃ ys, H' Dl = some (.lst ys) ∧ ys.length = i ∧ DaAll H' ys ((List.range i).map g)) ⟨hD, Evl.Ex.new hD, (e.trans e1).trans (Evl.Ex.new hD), [], upd_same, rfl, .nil⟩ (fun i H' _ p => sl_of (p.2.2.1 _ _ hx)) (fun k x H' H'' hk p y => by
    obtain ⟨rfl, f2⟩ := y
    refine ⟨hw _, ?_⟩
    obtain ⟨p1, p2, p3, ys, p4, p5, p6⟩ := p
    show te _ _ _
    exact he k x _ p3 f2 _ (Evl.Ex.refl _) _ fun v H4 e4 dv => by
      have hl4 := e4 _ _ p4
      have eL := ExT.lst (o := .lst (ys ++ [v])) hl4
      have nl : noLAll ((List.range k).map g) = true := noLAll_of fun d hd => by
        obtain ⟨m, _, rfl⟩ := List.mem_map.mp hd
        exact hg m
      refine ⟨ys, hl4, sz_lt (by omega), p1, Evl.Ex.mut (p2.trans e4) p1, Evl.Ex.mut (p3.trans e4) (fresh_back (e.trans e1) p1), ys ++ [v], upd_same, by rw [List.length_append, p5]; rfl, ?_⟩
      rw [List.range_succ, List.map_append]
      exact ((p6.ex e4).exT eL nl).app (.cons (dv.exT eL (hg k)) .nil)) (fun H' p => by
    obtain ⟨p1, p2, p3, ys, p4, p5, p6⟩ := p
    exact q Dl ys H' (e1.trans p2) (fresh_back e1 p1) p4 p6)⟩
theorem map_getD {js : List Nat} {β : Type} {f : Nat → β} : (List.range js.length).map (fun m => f (js.getD m 0)) = js.map f := by
  refine List.ext_getElem? fun k => ?_
  rw [List.getElem?_map, List.getElem?_map]
  rcases Nat.lt_or_ge k js.length with h | h
  · rw [List.getElem?_range h, List.getElem?_eq_getElem h]
    show some (f (js.getD k 0)) = _
    rw [List.getD_eq_getElem?_getD, List.getElem?_eq_getElem h]
    rfl
  · rw [List.getElem?_eq_none (by rw [List.length_range]; exact h), List.getElem?_eq_none h]
    rfl
theorem bods_fn {us fns : List PyData} {k : Nat} (h : k < fns.length) : (bodsD us fns)[k]? = some (PyData.tuple [.str "function", .int (k : Nat)], bodOf us fns "function" k) := by
  unfold bodsD bodsN
  rw [List.getElem?_append_left (by rw [List.length_map, List.length_range]; exact h), List.getElem?_map, List.getElem?_range h]
  rfl
theorem bods_un {us fns : List PyData} {k : Nat} (h : k < us.length) : (bodsD us fns)[fns.length + k]? = some (PyData.tuple [.str "unit", .int (k : Nat)], bodOf us fns "unit" k) := by
  unfold bodsD bodsN
  rw [List.getElem?_append_right (by rw [List.length_map, List.length_range]; omega), List.length_map, List.length_range, Nat.add_sub_cancel_left, List.getElem?_map, List.getElem?_range h]
  rfl
theorem ok_laccesses (T : TAcc K w.params mg) : Ok P w K mg base CX0 2 "_law_accesses" ["program"] spAcc := by
  have G__law_body : Ok P w K mg base CX0 1 "_law_body" ["program", "name"] spBody := ok_body T
  have G__law_unit_of : Ok P w K mg base CX0 1 "_law_unit_of" ["program", "one"] spUnitOf := ok_unit_of T
  refine T.d_laccesses.ok sc__law_accesses bi__law_accesses (fun vs H Q E h => ?_) (fun cdv A outer s H f vs Q E hr h => ?_)
  · obtain ⟨v, d, rfl, _⟩ := h
    rfl
  · obtain ⟨v, d, rfl, hd, ok, nl, q⟩ := h
    refine ⟨_, (pss_cons (ps_set (i := 1) sc__law_accesses.nd rfl (Or.inl rfl) (pe_lst pa_nil))
    (pss_cons (ps_for PassesOwn.never rfl (pi_list (pe_lst (pa_cons (pe_tup (pa_cons pe_str (pa_cons (pe_callB call_len_seq (by rfl) T.b_len (by decide +kernel) (pa_cons (pe_ix ix_tup (pv 0) pe_int (fun _ _ => rfl)) pa_nil)) pa_nil))) (pa_cons (pe_tup (pa_cons pe_str (pa_cons (pe_callB call_len_seq (by rfl) T.b_len (by decide +kernel) (pa_cons (pe_ix ix_tup (pv 0) pe_int (fun _ _ => rfl)) pa_nil)) pa_nil))) pa_nil)))) (pg_tup rfl (pgs_cons (pg_name (i := 2) sc__law_accesses.nd rfl (Or.inr rfl)) (pgs_cons (pg_name (i := 3) sc__law_accesses.nd rfl (Or.inl rfl)) pgs_nil))) (pss_one (ps_for PassesOwn.never rfl (pi_range1 (by rfl) T.b_range (pa_cons (pv 3) pa_nil)) (pg_name (i := 4) sc__law_accesses.nd rfl (Or.inr rfl)) (pss_cons (ps_set (i := 5) sc__law_accesses.nd rfl (Or.inr rfl) (pe_callO G__law_body (hr.mono (by decide)) (pa_cons (pv 0) (pa_cons (pe_tup (pa_cons (pv 2) (pa_cons (pv 4) pa_nil))) pa_nil))))
    (pss_cons (ps_setLc (i := 6) (own := [("place", 7)]) (g := gName 7) rfl sc__law_accesses.nd rfl rfl (sw_true rfl rfl rfl (by decide +kernel)) (pi_range1 (by rfl) T.b_range (pa_cons (pe_callB call_len_seq (by rfl) T.b_len (by decide +kernel) (pa_cons (pv 5) pa_nil)) pa_nil)) (blkOk_by (N := N__law_accesses) (sc := defScope s__law_accesses) (by decide +kernel)) (fun _ _ _ _ _ => (pg_name (i := 7) sc__law_accesses.nd rfl (Or.inl rfl))) (fun _ _ _ _ _ => (pts_one (pt_cmpR op_notN (pe_callO G__law_unit_of (hr.mono (by decide)) (pa_cons (pv 0) (pa_cons (pe_ix (ix_tupK (K := K) rfl) (pv 5) (pv 7) (fun _ _ => rfl)) pa_nil))) pe_non (nomark _)))) (fun _ _ _ _ _ => (pv 7)))
    (pss_one (ps_set (i := 1) sc__law_accesses.nd rfl (Or.inl rfl) (pe_op op_cat (pv 1) (pe_lc (own := [("place", 7)]) rfl sc__law_accesses.nd (pi_list (pv 6)) (blkOk_by (N := N__law_accesses) (sc := defScope s__law_accesses) (by decide +kernel)) (fun _ _ _ _ _ => (pg_name (i := 7) sc__law_accesses.nd rfl (Or.inl rfl))) (fun _ _ _ _ _ => pts_nil) (fun _ _ _ _ _ => (pe_tup (pa_cons (pe_tup (pa_cons (pv 2) (pa_cons (pv 4) pa_nil))) (pa_cons (pv 7) pa_nil)))))))))))))
    (pss_one (ps_ret (pv 1))))), ?_⟩
    have pp := prog_parts ok
    obtain ⟨us, fns, rfl, u1, u6, f1, f4, hus, hfs⟩ := pp
    have bv := bod_view ok
    have bnl : ∀ i, noLAll (accN (bodsD us fns) i) = true := accN_nl fun b hb => (bv b hb).nl
    have bln : ∀ i, (accN (bodsD us fns) i).length ≤ 8 * i := accN_len fun b hb => (bv b hb).len
    have bl : (bodsD us fns).length = fns.length + us.length := by
      unfold bodsD bodsN
      rw [List.length_append, List.length_map, List.length_map, List.length_range, List.length_range]
    -- found
    refine ⟨sz_of (by show 0 ≤ 100000; decide), fun l0 nl0 => ?_⟩
    have x0 := Ex.new nl0 (o := .lst [])
    have hl0 : (upd H l0 (.lst [])) l0 = some (.lst []) := upd_same
    generalize upd H l0 (.lst []) = H1 at x0 hl0 ⊢
    obtain ⟨a, xs, rfl, ha, hds⟩ := Da.tupl (hd.ex x0)
    cases hds with
    | @cons v1 r1 _ _ g1 hds =>
    cases hds with
    | @cons v2 r2 _ _ g2 hds =>
    cases hds
    obtain ⟨ua, uxs, rfl, hua, huds⟩ := Da.tupl g1
    obtain ⟨fa, fxs, rfl, hfa, hfds⟩ := Da.tupl g2
    have lu := huds.len
    have lf := hfds.len
    refine ⟨_, rfl, a, _, 1, .ref fa, rfl, rfl, st_of ha, atI_nat (j := 1) rfl, fa, fxs, rfl, .inr (st_of hfa), sz_of (by show 2 ≤ 100000; decide), fun t1 nt1 => ?_⟩
    have e1 := Ex.new nt1 (o := .tup [.str "function", .int (fxs.length : Nat)])
    refine ⟨_, rfl, a, _, 0, .ref ua, rfl, rfl, st_of (e1 _ _ ha), atI_nat (j := 0) rfl, ua, uxs, rfl, .inr (st_of (e1 _ _ hua)), sz_of (by show 2 ≤ 100000; decide), fun t2 nt2 => ?_⟩
    have e2 := Ex.new nt2 (o := .tup [.str "unit", .int (uxs.length : Nat)])
    refine ⟨sz_of (by show 2 ≤ 100000; decide), fun lw nlw => ?_⟩
    have e3 := Ex.new nlw (o := .lst [.ref t1, .ref t2])
    have eA := (e1.trans e2).trans e3
    have ht1 := e3 _ _ (e2 _ _ (upd_same (H := H1) (a := t1) (o := .tup [.str "function", .int (fxs.length : Nat)])))
    have ht2 := e3 _ _ (upd_same (H := upd H1 t1 (.tup [.str "function", .int (fxs.length : Nat)])) (a := t2) (o := .tup [.str "unit", .int (uxs.length : Nat)]))
    refine ⟨lw, rfl, ⟨_, sl_of upd_same⟩, ?_⟩
    have hlw : (upd (upd (upd H1 t1 (.tup [.str "function", .int (fxs.length : Nat)])) t2 (.tup [.str "unit", .int (uxs.length : Nat)])) lw (.lst [.ref t1, .ref t2])) lw = some (.lst [.ref t1, .ref t2]) := upd_same
    generalize upd (upd (upd H1 t1 (.tup [.str "function", .int (fxs.length : Nat)])) t2 (.tup [.str "unit", .int (uxs.length : Nat)])) lw (.lst [.ref t1, .ref t2]) = Hs at eA ht1 ht2 hlw ⊢
    have xs0 := x0.trans eA
    refine for_it (walk_list (xs := [.ref t1, .ref t2])) (fun i σ H' => ∃ (l : Addr) (xl : List V) (y2 y3 y4 y5 y6 : Option V), σ = [some (.ref a), some (.ref l), y2, y3, y4, y5, y6, none] ∧ Ex Hs H' ∧ H' l = some (.lst xl) ∧ H l = none ∧
        DaAll H' xl (accN (bodsD us fns) (if i = 0 then 0 else if i = 1 then fns.length else fns.length + us.length)))
      ⟨l0, [], none, none, none, none, none, rfl, Ex.refl _, eA _ _ hl0, nl0, .nil⟩ (fun i σ H' _ ⟨_, _, _, _, _, _, _, _, e, _⟩ => sl_of (e _ _ hlw)) ?_ ?_
    · rintro i x σ H' H'' hi ⟨l, xl, y2, y3, y4, y5, y6, rfl, xH, hl, nl', dl⟩ ⟨rfl, hx⟩
      obtain ⟨t, wd, n, o, rfl, ht, hn, hbo, ho, ho', hnl, hwd⟩ : ∃ (t : Addr) (wd : Str) (n o : Nat), x = .ref t ∧ Hs t = some (.tup [.str wd, .int (n : Nat)]) ∧ n = (if wd = "unit" then us else fns).length ∧ (∀ k, k < n → (bodsD us fns)[o + k]? = some (PyData.tuple [.str wd, .int (k : Nat)], bodOf us fns wd k)) ∧
          (if i = 0 then 0 else if i = 1 then fns.length else fns.length + us.length) = o ∧ (if i + 1 = 0 then 0 else if i + 1 = 1 then fns.length else fns.length + us.length) = o + n ∧ n ≤ 6 ∧ o ≤ 4 := by
        match i, hx with
        | 0, hx =>
          cases hx
          refine ⟨t1, "function", fns.length, 0, rfl, by rw [← lf]; exact ht1, rfl, fun k hk => by rw [Nat.zero_add]; exact bods_fn hk, rfl, by simp, by omega, by omega⟩
        | 1, hx =>
          cases hx
          exact ⟨t2, "unit", us.length, fns.length, rfl, by rw [← lu]; exact ht2, rfl, fun k hk => bods_un hk, rfl, rfl, u6, f4⟩
      rw [ho] at dl
      refine ⟨t, _, rfl, st_of (xH _ _ ht), rfl, _, _, rfl, _, _, rfl, rfl, ?_⟩
      refine ⟨_, rfl, (n : Int), rfl, by omega, by omega, ?_⟩
      refine for_it (walk_range (lo := 0) (n := n)) (fun k σ H' => ∃ (l : Addr) (xl : List V) (y4 y5 y6 : Option V), σ = [some (.ref a), some (.ref l), some (.str wd), some (.int (n : Nat)), y4, y5, y6, none] ∧ Ex Hs H' ∧ H' l = some (.lst xl) ∧ H l = none ∧ DaAll H' xl (accN (bodsD us fns) (o + k)))
        ⟨l, xl, _, _, _, rfl, xH, hl, nl', dl⟩ (fun _ _ _ _ _ => trivial) ?_ ?_
      · rintro k x σ H2 H3 hk ⟨l, xl, y4, y5, y6, rfl, x2, hl, nl', dl⟩ ⟨rfl, rfl⟩
        show gName 4 (V.int (0 + (k : Int))) _ _ _
        rw [show (0 : Int) + (k : Int) = (k : Int) from Int.zero_add _]
        have hb := hbo k hk
        have B := bv _ (List.mem_of_getElem? hb)
        have Bl : (bodOf us fns wd k).length ≤ 8 := B.len
        refine ⟨_, rfl, _, rfl, _, rfl, sz_of (by show 2 ≤ 100000; decide), fun nm nnm => ?_⟩
        have x3 := x2.trans (Ex.new nnm (o := .tup [.str wd, .int (k : Nat)]))
        have hl3 := (Ex.new nnm (o := .tup [.str wd, .int (k : Nat)])) _ _ hl
        have dl3 := dl.ex (Ex.new nnm (o := .tup [.str wd, .int (k : Nat)]))
        refine ⟨.ref a, nm, us, fns, wd, k, rfl, hd.ex (xs0.trans x3), ok, upd_same, by rw [← hn]; exact hk, fun ba bx H4 x4 hba hbx => ?_⟩
        have x34 := x3.trans x4
        have lb := hbx.len
        -- some
        have el := Evl.el_lcR1 (ta := tCons (tCB (fun xs H Q => ∃ p ys, xs = [V.ref p] ∧ (SqL K H p ys ∨ SqT K H p ys) ∧ Q (V.int ↑ys.length) H) (tCons (tVar 5) tNil)) tNil) (t := tTest (tOp (fun x y H Q => y = .non ∧ Q (.bl (!decide (x = .non))) H) (tCall spUnitOf [] E0 (tCons (tVar 0) (tCons (tOp (rIxT K) (tVar 5) (tVar 7)) tNil))) (tC .non))) (te := tVar 7)
          (σ := [some (.ref a), some (.ref l), some (.str wd), some (.int (n : Nat)), some (.int (k : Nat)), some (.ref ba), y6, none]) (H := H4) (j := 7) (vs := [7]) (n := (bx.length : Int)) (fun j => isAcc ((bodOf us fns wd k).getD j .none)) (fun j => .int (j : Int)) (ea_cons (ev_lenT (K := K) (ev_var rfl) (st_of hba)) ea_nil) (by omega) (fun _ => rfl)
          (fun j H5 x5 hj => by
            have hj' : j < bx.length := by omega
            obtain ⟨dj, hdj, ddj⟩ := (hbx.ex x5).at (List.getElem?_eq_getElem hj')
            rw [getD_at hdj]
            refine fun H6 x6 Q' q' => ⟨_, rfl, _, rfl, _, rfl, ba, bx, (j : Int), _, rfl, rfl, st_of (x6 _ _ (x5 _ _ hba)), atI_nat (List.getElem?_eq_getElem hj'), .ref a, _, us, fns, dj, rfl, hd.ex (((xs0.trans x34).trans x5).trans x6), ok, ddj.ex x6, B.ins dj (List.mem_of_getElem? hdj), fun r H7 x7 hr => ⟨rfl, _, rfl, ?_⟩⟩
            rw [hr, Bool.not_not]
            exact q' H7 x7)
          (fun j H5 x5 hj _ => ev_var rfl)
        dsimp only
        refine q_asgL el fun sl H5 nsl x5 hsl => ?_
        have hl5 := x5 _ _ (x4 _ _ hl3)
        have dl5 := (dl3.ex x4).ex x5
        have x35 := x34.trans x5
        generalize hjs : (List.range (bx.length : Int).toNat).filter (fun j => isAcc ((bodOf us fns wd k).getD j .none)) = js at hsl
        have hsl' : H5 sl = some (.lst (js.map fun j : Nat => V.int (j : Int))) := by
          rw [← hjs]
          exact hsl
        have jl : js.length ≤ 8 := by
          rw [← hjs]
          have := List.length_filter_le (fun j => isAcc ((bodOf us fns wd k).getD j .none)) (List.range (bx.length : Int).toNat)
          rw [List.length_range] at this
          omega
        have lp := el_lcLP (K := K) (a := sl) (xs := js.map fun j : Nat => V.int (j : Int)) (j := 7) (vs := [7]) (tx := tVar 6) (te := tTup (tCons (tTup (tCons (tVar 2) (tCons (tVar 4) tNil))) (tCons (tVar 7) tNil)))
          (σ := [some (.ref a), some (.ref l), some (.str wd), some (.int (n : Nat)), some (.int (k : Nat)), some (.ref ba), some (.ref sl), none]) (H := H5) (fun m => .tuple [.tuple [.str wd, .int (k : Nat)], .int (js.getD m 0 : Nat)]) (fun m => rfl) (ev_var rfl) hsl' (by rw [List.length_map]; omega) (fun _ => rfl)
          (fun m x H6 x6 hm H7 x7 Q' q' => by
            rw [List.getElem?_map] at hm
            obtain ⟨jm, hjm, rfl⟩ := Option.map_eq_some_iff.mp hm
            refine ⟨_, rfl, _, rfl, sz_of (by show 2 ≤ 100000; decide), fun u1 nu1 => ⟨_, rfl, sz_of (by show 2 ≤ 100000; decide), fun u2 nu2 => ?_⟩⟩
            refine q' _ _ ((Ex.new nu1).trans (Ex.new nu2)) ?_
            rw [getD_at hjm]
            exact .tup upd_same (.cons (.tup ((Ex.new nu2) _ _ upd_same) (.cons (.str _) (.cons (.int _) .nil))) (.cons (.int _) .nil)))
        refine ⟨_, rfl, ?_⟩
        refine lp H5 (Ex.refl _) _ fun l2 yl2 H6 x6 nl2 hl2 d2 => ?_
        have hl6 := x6 _ _ hl5
        have dl6 := dl5.ex x6
        have ll := dl6.len
        have ll2 := d2.len
        rw [List.length_map, List.length_range, List.length_map] at ll2
        have := bln (o + k)
        refine ⟨l, l2, xl, yl2, rfl, rfl, hl6, hl2, sz_of (by omega), fun u nu => ?_⟩
        have x36 := (x35.trans x6).trans (Ex.new nu (o := .lst (xl ++ yl2)))
        refine ⟨u, xl ++ yl2, _, _, _, rfl, x36, upd_same, fresh_back (xs0.trans (x35.trans x6)) nu, ?_⟩
        have e : accN (bodsD us fns) (o + (k + 1)) = accN (bodsD us fns) (o + k) ++ js.map (fun j => PyData.tuple [.tuple [.str wd, .int (k : Nat)], .int (j : Nat)]) := by
          rw [← Nat.add_assoc, accN_succ hb]
          congr 1
          show ((List.range (bodOf us fns wd k).length).filter fun j => isAcc ((bodOf us fns wd k).getD j .none)).map (fun j => PyData.tuple [.tuple [.str wd, .int (k : Nat)], .int (j : Nat)]) = _
          rw [← hjs, ← lb]
          rfl
        rw [e]
        rw [List.length_map, map_getD (f := fun j => PyData.tuple [.tuple [.str wd, .int (k : Nat)], .int (j : Nat)])] at d2
        exact (dl6.app d2).ex (Ex.new nu)
      · rintro σ H2 ⟨l, xl, y4, y5, y6, rfl, x2, hl, nl', dl⟩
        refine ⟨l, xl, _, _, _, _, _, rfl, x2, hl, nl', ?_⟩
        rw [ho']
        exact dl
    · rintro σ H' ⟨l, xl, y2, y3, y4, y5, y6, rfl, xH, hl, nl', dl⟩
      refine ⟨_, rfl, ?_⟩
      refine q l xl H' (xs0.trans xH) nl' hl ?_
      have e : accD (.tuple [.tuple us, .tuple fns]) = accN (bodsD us fns) (fns.length + us.length) := by
        rw [← bl, accN_all]
        rfl
      rw [e]
      exact dl
end
end FW
set_option Elab.async false
set_option linter.all false
set_option maxRecDepth 100000
set_option maxHeartbeats 4000000
namespace FW
open PySem PySem.Spec PyProof.Rows L2
open Evl (pss_cut tCut)
open Evl (Ex Ev EvT EvA EvL EvU RC RV fresh_back ev_var ev_c ea_nil ea_cons ev_cb ev_op ev_is ev_andV ev_orV ev_notV et_test et_B et_and et_or et_not et_is s_ret s_when q_when q_asg q_asgL q_asgU rv_I0 rv_eq rv_ne rv_ixT rv_ixL)
section
variable {P : Program} {w : World} {K : PySem.W.Frag} {mg : Str → Option Value} {base : Heap}
theorem walk_zipT {a b : Addr} {xs ys : List V} {n : Nat} (hn : n = min xs.length ys.length) : Walk (RZ.ItzT K a b) n (fun H => SqT K H a xs ∧ SqT K H b ys) (YPair (fun i => xs[i]?) (fun i => ys[i]?)) := by
  subst hn
  refine ⟨fun i _ hi q => ?_, fun _ q => ⟨xs, ys, q.1, q.2, by omega⟩, fun i H v H' _ q y => ?_⟩
  · have h1 : i < xs.length := by omega
    have h2 : i < ys.length := by omega
    exact ⟨xs, ys, xs[i], ys[i], q.1, q.2, by simp [h1], by simp [h2]⟩
  · obtain ⟨T, x, z, h1, h2, h3, h4, h5⟩ := y
    exact ⟨T, x, z, h1, h2, h3, h4 xs q.1, h5 ys q.2⟩
/-- what may be compared: no None, no dict, depth at most n -/
def cmpb : PyData → Bool
  | .bool _ | .int _ | .str _ => true
  | .list ds | .tuple ds => decide (ds.length ≤ 1000)
  | _ => false
mutual
def cmpD : PyData → Bool
  | .list ds => decide (ds.length ≤ 1000) && cmpDs ds
  | .tuple ds => decide (ds.length ≤ 1000) && cmpDs ds
  | .bool _ => true
  | .int _ => true
  | .str _ => true
  | .none => false
  | .dict _ => false
def cmpDs : List PyData → Bool
  | [] => true
  | d :: ds => cmpD d && cmpDs ds
end
theorem cmpA {ds : List PyData} : cmpDs ds = true ↔ ∀ d ∈ ds, cmpD d = true := by
  induction ds with
  | nil => exact ⟨fun _ d h => (by cases h), fun _ => rfl⟩
  | cons x r ih =>
    show (cmpD x && cmpDs r) = true ↔ _
    rw [Bool.and_eq_true, ih]
    exact ⟨fun h d hd => (List.mem_cons.mp hd).elim (fun e => e ▸ h.1) (h.2 d), fun h => ⟨h x List.mem_cons_self, fun d hd => h d (List.mem_cons_of_mem _ hd)⟩⟩
/-- isinstance(v, (int, str)) -/
def isIS (d : PyData) : Bool := isTy d "int" || isTy d "str"
theorem ev_isIS {σ : L2.St} {H : Hp} {te : TE} {v : V} {d : PyData} (hi : Ev te σ H v) (h : Da H v d) : Ev (tCB (rIsiT K) (tCons te (tCons (tTup (tCons (tC (.ty "int")) (tCons (tC (.ty "str")) tNil))) tNil))) σ H (.bl (isIS d)) := fun H1 e Q q =>
  hi H1 e _ fun H2 e2 => ⟨sz_of (by show 2 ≤ 100000; decide), fun t nt => ⟨v, t, _, _, [.type "int", .type "str"], isIS d, rfl, upd_same, .cons (.ty _) (.cons (.ty _) .nil), ((h.ex (e.trans e2)).ex (Ex.new nt)).ty, by
    unfold PySem.W.kitAny
    rw [kit_d d (.inl rfl)]
    unfold isIS
    cases c : isTy d "int" with
    | true => rfl
    | false =>
      show (match PySem.W.kitOne K (.type (tyD d)) (.type "str") with | some true => some true | some false => PySem.W.kitAny K (.type (tyD d)) [] | none => none) = _
      rw [kit_d d (.inr (.inr (.inl rfl)))]
      cases isTy d "str" <;> rfl, q _ (e2.trans (Ex.new nt))⟩⟩
def spSame (n : Nat) : Sp := fun vs H Q _ => ∃ (x y : V) (d : PyData), vs = [x, y] ∧ Da H x d ∧ Da H y d ∧ cmpD d = true ∧ d.depth ≤ n ∧ Ret (.bl true) H Q
def spSameI (n : Nat) : Sp := fun vs H Q E => ∃ m, n = m + 1 ∧ spSame m vs H Q E
theorem given_bl {n : Nat} : (List.range n).map (fun _ => V.bl true) = (List.range n).map fun i => V.bl ((fun _ : Nat => true) i) := rfl
theorem same_step (T : TAcc K w.params mg) (n : Nat) (hn : n ≤ 100) (G__law_same : Ok P w K mg base CX0 (n + 1) "_law_same" ["found", "due"] (spSameI n)) : Ok P w K mg base CX0 (n + 2) "_law_same" ["found", "due"] (spSame n) := by
  refine T.d_same.ok sc__law_same bi__law_same (fun vs H Q E h => ?_) (fun cdv A outer s H f vs Q E hr h => ?_)
  · obtain ⟨x, y, d, rfl, _⟩ := h
    rfl
  · obtain ⟨x, y, d, rfl, hx, hy, hc, hdp, q⟩ := h
    refine ⟨_, (pss_cons (ps_if (PW.pt (pw_or (pt_cmpR op_isN (pv 1) pe_non (nomark _)) (pw_or1 (pt_cmpR op_isN (pv 0) pe_non (nomark _))))) (pss_one (ps_ret (pe_and (pe_cmpR op_isN (pv 1) pe_non (nomark _)) (pe_one (pe_cmpR op_isN (pv 0) pe_non (nomark _)))))) pss_nil)
    (pss_cons (ps_if (PW.pt (pw_or (pt_val (pe_callB call_isi (by rfl) T.b_isinstance (by decide +kernel) (pa_cons (pv 1) (pa_cons (pe_bltn (by rfl) T.b_bool (by decide +kernel) (v := .ty "bool") rfl) pa_nil)))) (pw_or1 (pt_val (pe_callB call_isi (by rfl) T.b_isinstance (by decide +kernel) (pa_cons (pv 0) (pa_cons (pe_bltn (by rfl) T.b_bool (by decide +kernel) (v := .ty "bool") rfl) pa_nil))))))) (pss_one (ps_ret (pe_and (pe_callB call_isi (by rfl) T.b_isinstance (by decide +kernel) (pa_cons (pv 1) (pa_cons (pe_bltn (by rfl) T.b_bool (by decide +kernel) (v := .ty "bool") rfl) pa_nil))) (pe_and (pe_callB call_isi (by rfl) T.b_isinstance (by decide +kernel) (pa_cons (pv 0) (pa_cons (pe_bltn (by rfl) T.b_bool (by decide +kernel) (v := .ty "bool") rfl) pa_nil))) (pe_one (pe_cmpR op_eq (pv 0) (pv 1) (nomark _))))))) pss_nil)
    (pss_cons (ps_if (pt_val (pe_callB call_isiT (by rfl) T.b_isinstance (by decide +kernel) (pa_cons (pv 1) (pa_cons (pe_tup (pa_cons (pe_bltn (by rfl) T.b_int (by decide +kernel) (v := .ty "int") rfl) (pa_cons (pe_bltn (by rfl) T.b_str (by decide +kernel) (v := .ty "str") rfl) pa_nil))) pa_nil)))) (pss_cons (ps_if (pt_cmpR op_ne (pe_callB call_isi (by rfl) T.b_isinstance (by decide +kernel) (pa_cons (pv 0) (pa_cons (pe_bltn (by rfl) T.b_int (by decide +kernel) (v := .ty "int") rfl) pa_nil))) (pe_callB call_isi (by rfl) T.b_isinstance (by decide +kernel) (pa_cons (pv 1) (pa_cons (pe_bltn (by rfl) T.b_int (by decide +kernel) (v := .ty "int") rfl) pa_nil))) (nomark _)) (pss_one (ps_ret pe_bl)) pss_nil)
    (pss_one (ps_ret (pe_and (pe_callB call_isiT (by rfl) T.b_isinstance (by decide +kernel) (pa_cons (pv 0) (pa_cons (pe_tup (pa_cons (pe_bltn (by rfl) T.b_int (by decide +kernel) (v := .ty "int") rfl) (pa_cons (pe_bltn (by rfl) T.b_str (by decide +kernel) (v := .ty "str") rfl) pa_nil))) pa_nil))) (pe_one (pe_cmpR op_eq (pv 0) (pv 1) (nomark _))))))) pss_nil)
    (pss_cons (ps_if (PW.pt (pw_or (pt_cmpR op_ne (pe_callB call_isi (by rfl) T.b_isinstance (by decide +kernel) (pa_cons (pv 1) (pa_cons (pe_bltn (by rfl) T.b_tuple (by decide +kernel) (v := .ty "tuple") rfl) pa_nil))) (pe_callB call_isi (by rfl) T.b_isinstance (by decide +kernel) (pa_cons (pv 0) (pa_cons (pe_bltn (by rfl) T.b_tuple (by decide +kernel) (v := .ty "tuple") rfl) pa_nil))) (nomark _)) (pw_or1 (pt_cmpR op_ne (pe_callB call_isi (by rfl) T.b_isinstance (by decide +kernel) (pa_cons (pv 1) (pa_cons (pe_bltn (by rfl) T.b_list (by decide +kernel) (v := .ty "list") rfl) pa_nil))) (pe_callB call_isi (by rfl) T.b_isinstance (by decide +kernel) (pa_cons (pv 0) (pa_cons (pe_bltn (by rfl) T.b_list (by decide +kernel) (v := .ty "list") rfl) pa_nil))) (nomark _))))) (pss_one (ps_ret pe_bl)) pss_nil)
    (pss_cons (ps_if (pt_cmpR op_ne (pe_callB call_len_seq (by rfl) T.b_len (by decide +kernel) (pa_cons (pv 0) pa_nil)) (pe_callB call_len_seq (by rfl) T.b_len (by decide +kernel) (pa_cons (pv 1) pa_nil)) (nomark _)) (pss_one (ps_ret pe_bl)) pss_nil)
    (pss_one (ps_ret (pe_cmpR op_notIn_seq pe_bl (pe_lc (own := [("one", 2), ("other", 3)]) (g := gTup K 2 (gCons (gName 2) (gCons (gName 3) gNil))) rfl sc__law_same.nd (RZ.pi_zipA (by rfl) T.b_zip (pa_cons (pv 0) (pa_cons (pv 1) pa_nil))) (blkOk_by (N := N__law_same) (sc := defScope s__law_same) (by decide +kernel)) (fun _ _ _ _ _ => by exact (pg_tup rfl (pgs_cons (pg_name (i := 2) sc__law_same.nd rfl (Or.inl rfl)) (pgs_cons (pg_name (i := 3) sc__law_same.nd rfl (Or.inl rfl)) pgs_nil)))) (fun _ _ _ _ _ => pts_nil) (fun _ _ _ _ _ => (pe_callO G__law_same (hr.mono (by omega)) (pa_cons (pv 2) (pa_cons (pv 3) pa_nil))))) (by rfl))))))))), ?_⟩
    have nn : isNonD d = false := by
      cases d with
      | none => cases hc
      | _ => rfl
    refine q_when (b := false) (et_is (et_or (a := isNonD d) (b := isNonD d) (et_is (et_test (ev_op (ev_var rfl) ev_c rv_isN)) (da_non hy)) fun _ => et_is (et_test (ev_op (ev_var rfl) ev_c rv_isN)) (da_non hx)) (by rw [nn]; rfl)) (fun z => by cases z) (fun _ H1 x1 => ?_)
    have hx1 := hx.ex x1
    have hy1 := hy.ex x1
    refine q_when (b := isTy d "bool") (et_is (et_or (a := isTy d "bool") (b := isTy d "bool") (et_B (ev_isi (ev_var rfl) hy1 (.inr (.inl rfl)))) fun _ => et_B (ev_isi (ev_var rfl) hx1 (.inr (.inl rfl)))) (Bool.or_self _)) (fun hb H2 x2 => ?_) (fun hb H2 x2 => ?_)
    · have x12 := x1.trans x2
      refine s_ret (ev_is (ev_andV (a := isTy d "bool") (b := true) (ev_isi (ev_var rfl) (hy.ex x12) (.inr (.inl rfl))) fun _ => ev_is (ev_andV (a := isTy d "bool") (b := true) (ev_isi (ev_var rfl) (hx.ex x12) (.inr (.inl rfl))) fun _ => ?_) (by rw [hb]; rfl)) (by rw [hb]; rfl)) fun H3 x3 => q H3 (x12.trans x3)
      rw [ty_bool] at hb
      cases d with
      | bool b =>
        cases hx
        cases hy
        exact ev_is (ev_op (ev_var rfl) (ev_var rfl) (rv_eq rfl)) (by simp)
      | _ => cases hb
    have x12 := x1.trans x2
    have hx2 := hx.ex x12
    have hy2 := hy.ex x12
    refine q_when (b := isIS d) (et_B (ev_isIS (ev_var rfl) hy2)) (fun hi H3 x3 => ?_) (fun hi H3 x3 => ?_)
    · have x13 := x12.trans x3
      show tSeq _ _ _ _ _
      refine q_when (b := false) (et_is (et_test (ev_op (ev_isi (ev_var rfl) (hx.ex x13) (.inl rfl)) (ev_isi (ev_var rfl) (hy.ex x13) (.inl rfl)) (rv_ne rfl))) (by simp)) (fun z => by cases z) (fun _ H4 x4 => ?_)
      have x14 := x13.trans x4
      refine s_ret (ev_is (ev_andV (a := isIS d) (b := true) (ev_isIS (ev_var rfl) (hx.ex x14)) fun _ => ?_) (by rw [hi]; rfl)) fun H5 x5 => q H5 (x14.trans x5)
      cases d with
      | int i =>
        cases hx
        cases hy
        exact ev_is (ev_op (ev_var rfl) (ev_var rfl) (rv_eq rfl)) (by simp)
      | str z =>
        cases hx
        cases hy
        exact ev_is (ev_op (ev_var rfl) (ev_var rfl) (rv_eq rfl)) (by simp)
      | bool b =>
        rw [ty_bool] at hb
        cases hb
      | none => cases hc
      | dict _ => cases hc
      | list ds =>
        unfold isIS at hi
        rw [ty_int, ty_str] at hi
        cases hi
      | tuple ds =>
        unfold isIS at hi
        rw [ty_int, ty_str] at hi
        cases hi
    have x13 := x12.trans x3
    have hx3 := hx.ex x13
    have hy3 := hy.ex x13
    refine q_when (b := false) (et_is (et_or (a := !decide (V.bl (isTy d "tuple") = V.bl (isTy d "tuple"))) (b := !decide (V.bl (isTy d "list") = V.bl (isTy d "list"))) (et_test (ev_op (ev_isi (ev_var rfl) hy3 (.inr (.inr (.inr (.inl rfl))))) (ev_isi (ev_var rfl) hx3 (.inr (.inr (.inr (.inl rfl))))) (rv_ne rfl))) fun _ =>
      et_test (ev_op (ev_isi (ev_var rfl) hy3 (.inr (.inr (.inr (.inr rfl))))) (ev_isi (ev_var rfl) hx3 (.inr (.inr (.inr (.inr rfl))))) (rv_ne rfl))) (by simp)) (fun z => by cases z) (fun _ H4 x4 => ?_)
    have x14 := x13.trans x4
    -- a list or a tuple
    have seq : ∃ (a b : Addr) (xs ys : List V) (ds : List PyData) (m : Nat), x = .ref a ∧ y = .ref b ∧ n = m + 1 ∧ xs.length = ds.length ∧ ys.length = ds.length ∧ ds.length ≤ 1000 ∧ (∀ e ∈ ds, cmpD e = true) ∧ (∀ e ∈ ds, e.depth ≤ m) ∧ DaAll H xs ds ∧ DaAll H ys ds ∧
        ((H a = some (.lst xs) ∧ H b = some (.lst ys)) ∨ (H a = some (.tup xs) ∧ H b = some (.tup ys))) := by
      have len : ∀ {ds : List PyData}, (decide (ds.length ≤ 1000) && cmpDs ds) = true → ds.length ≤ 1000 ∧ ∀ e ∈ ds, cmpD e = true := fun h => by
        rw [Bool.and_eq_true, decide_eq_true_eq, cmpA] at h
        exact h
      have dep : ∀ {ds : List PyData}, PyData.depthAll ds + 1 ≤ n → ∃ m, n = m + 1 ∧ ∀ e ∈ ds, e.depth ≤ m := fun {ds} h => by
        cases n with
        | zero => omega
        | succ m => exact ⟨m, rfl, dpA.mp (by omega)⟩
      cases d with
      | list ds =>
        obtain ⟨l1, l2⟩ := len hc
        obtain ⟨m, rfl, hm⟩ := dep hdp
        cases hx with
        | @lst a xs _ h1 h2 =>
          cases hy with
          | @lst b ys _ h3 h4 => exact ⟨a, b, xs, ys, ds, m, rfl, rfl, rfl, h2.len, h4.len, l1, l2, hm, h2, h4, .inl ⟨h1, h3⟩⟩
      | tuple ds =>
        obtain ⟨l1, l2⟩ := len hc
        obtain ⟨m, rfl, hm⟩ := dep hdp
        cases hx with
        | @tup a xs _ h1 h2 =>
          cases hy with
          | @tup b ys _ h3 h4 => exact ⟨a, b, xs, ys, ds, m, rfl, rfl, rfl, h2.len, h4.len, l1, l2, hm, h2, h4, .inr ⟨h1, h3⟩⟩
      | int i =>
        unfold isIS at hi
        rw [ty_int] at hi
        cases hi
      | str z =>
        unfold isIS at hi
        rw [ty_int, ty_str] at hi
        cases hi
      | bool b =>
        rw [ty_bool] at hb
        cases hb
      | none => cases hc
      | dict _ => cases hc
    obtain ⟨a, b, xs, ys, ds, m, rfl, rfl, rfl, lx, ly, l1, l2, hm, dx, dy, ho⟩ := seq
    have sa : ∀ {H' : Hp}, Ex H H' → SqL K H' a xs ∨ SqT K H' a xs := fun e => ho.elim (fun h => .inl (sl_of (e _ _ h.1))) fun h => .inr (st_of (e _ _ h.1))
    have sb : ∀ {H' : Hp}, Ex H H' → SqL K H' b ys ∨ SqT K H' b ys := fun e => ho.elim (fun h => .inl (sl_of (e _ _ h.2))) fun h => .inr (st_of (e _ _ h.2))
    refine q_when (b := false) (et_is (et_test (ev_op (x := .int (xs.length : Int)) (y := .int (ys.length : Int)) (fun H5 x5 Q q => ⟨_, rfl, a, xs, rfl, sa (x14.trans x5), q H5 (Ex.refl _)⟩) (fun H5 x5 Q q => ⟨_, rfl, b, ys, rfl, sb (x14.trans x5), q H5 (Ex.refl _)⟩) (rv_ne rfl))) (by rw [lx, ly]; simp)) (fun z => by cases z) (fun _ H5 x5 => ?_)
    have x15 := x14.trans x5
    have el : EvL (tLc (RZ.iZipA K (tCons (tVar 0) (tCons (tVar 1) tNil))) (gTup K 2 (gCons (gName 2) (gCons (gName 3) gNil))) tYes (tCall (spSameI (m + 1)) [] E0 (tCons (tVar 2) (tCons (tVar 3) tNil))) [2, 3]) [some (.ref a), some (.ref b), none, none] H5 ((List.range ds.length).map fun i => V.bl ((fun _ : Nat => true) i)) := by
      intro H6 x6 Q qq
      refine ⟨_, rfl, _, rfl, a, b, xs, ys, rfl, ?_⟩
      rcases ho with ho | ho
      · exact .inl ⟨sl_of ((x15.trans x6) _ _ ho.1), sl_of ((x15.trans x6) _ _ ho.2), fun Dl hD => lc_it (walk_zip (xs := xs) (ys := ys) (n := ds.length) (by rw [lx, ly]; exact (Nat.min_self _).symm)) (fun i H' => H6 Dl = none ∧ Ex H6 H' ∧ H' Dl = some (.lst ((List.range i).map fun _ => V.bl true))) ⟨hD, Ex.new hD, upd_same⟩ (fun i H' _ p => ⟨sl_of (((x15.trans x6).trans p.2.1) _ _ ho.1), sl_of (((x15.trans x6).trans p.2.1) _ _ ho.2)⟩) (fun k z H' H'' hk p hz => by
          obtain ⟨T2, z1, z2, rfl, nT, rfl, f1, f2⟩ := hz
          refine ⟨T2, _, rfl, .inl (.inl upd_same), rfl, _, _, rfl, _, _, rfl, rfl, rfl, ?_⟩
          have eT := Ex.new nT (o := .tup [z1, z2])
          have xk := ((x15.trans x6).trans p.2.1).trans eT
          obtain ⟨dk, hdk, d1⟩ := (dx.ex xk).at f1
          obtain ⟨dk', hdk', d2⟩ := (dy.ex xk).at f2
          rw [hdk] at hdk'
          cases hdk'
          have mem := List.mem_of_getElem? hdk
          refine ⟨_, rfl, _, rfl, m, rfl, z1, z2, dk, rfl, d1, d2, l2 dk mem, hm dk mem, fun H8 x8 => ?_⟩
          have hl8 := x8 _ _ (eT _ _ p.2.2)
          refine ⟨_, hl8, sz_lt (by rw [List.length_map, List.length_range]; omega), p.1, Evl.Ex.mut ((p.2.1.trans eT).trans x8) p.1, ?_⟩
          rw [List.range_succ, List.map_append]
          exact upd_same) (fun H' p => qq Dl H' p.1 p.2.1 p.2.2)⟩
      · exact .inr ⟨st_of ((x15.trans x6) _ _ ho.1), st_of ((x15.trans x6) _ _ ho.2), fun Dl hD => lc_it (walk_zipT (xs := xs) (ys := ys) (n := ds.length) (by rw [lx, ly]; exact (Nat.min_self _).symm)) (fun i H' => H6 Dl = none ∧ Ex H6 H' ∧ H' Dl = some (.lst ((List.range i).map fun _ => V.bl true))) ⟨hD, Ex.new hD, upd_same⟩ (fun i H' _ p => ⟨st_of (((x15.trans x6).trans p.2.1) _ _ ho.1), st_of (((x15.trans x6).trans p.2.1) _ _ ho.2)⟩) (fun k z H' H'' hk p hz => by
          obtain ⟨T2, z1, z2, rfl, nT, rfl, f1, f2⟩ := hz
          refine ⟨T2, _, rfl, .inl (.inl upd_same), rfl, _, _, rfl, _, _, rfl, rfl, rfl, ?_⟩
          have eT := Ex.new nT (o := .tup [z1, z2])
          have xk := ((x15.trans x6).trans p.2.1).trans eT
          obtain ⟨dk, hdk, d1⟩ := (dx.ex xk).at f1
          obtain ⟨dk', hdk', d2⟩ := (dy.ex xk).at f2
          rw [hdk] at hdk'
          cases hdk'
          have mem := List.mem_of_getElem? hdk
          refine ⟨_, rfl, _, rfl, m, rfl, z1, z2, dk, rfl, d1, d2, l2 dk mem, hm dk mem, fun H8 x8 => ?_⟩
          have hl8 := x8 _ _ (eT _ _ p.2.2)
          refine ⟨_, hl8, sz_lt (by rw [List.length_map, List.length_range]; omega), p.1, Evl.Ex.mut ((p.2.1.trans eT).trans x8) p.1, ?_⟩
          rw [List.range_succ, List.map_append]
          exact upd_same) (fun H' p => qq Dl H' p.1 p.2.1 p.2.2)⟩
    refine s_ret (ev_is (Evl.ev_opL ev_c el fun p2 H6 hp2 _ => Evl.rv_inL (sl_of hp2) rfl flat_bls) ?_) fun H6 x6 => q H6 (x15.trans x6)
    rw [if_pos rfl, inV_false]
    simp
theorem ok_same (T : TAcc K w.params mg) : ∀ n : Nat, n ≤ 100 → Ok P w K mg base CX0 (n + 2) "_law_same" ["found", "due"] (spSame n)
  | 0, h => same_step T 0 h (T.d_same.ok (k := 0) (sp := spSameI 0) sc__law_same bi__law_same (fun vs H Q E h => by obtain ⟨m, e, _⟩ := h; cases e) (fun cdv A outer s H f vs Q E hr h => by obtain ⟨m, e, _⟩ := h; cases e))
  | n + 1, h => same_step T (n + 1) h ((ok_same T n (by omega)).imp (sp' := spSameI (n + 1)) fun vs H Q E h => by
        obtain ⟨m, e, x⟩ := h
        cases e
        exact x)
end
end FW
set_option Elab.async false
set_option linter.all false
set_option maxRecDepth 100000
set_option maxHeartbeats 4000000
namespace FW
open PySem PySem.Spec PyProof.Rows L2
open Evl (pss_cut tCut)
theorem shs_of {k b : Nat} : ∀ {ds : List PyData} {n : Nat}, (∀ x ∈ ds, Sh k b x) → ds.length ≤ n → Shs k (n * (b + 1)) ds
  | [], n, _, _ => ⟨fun _ h => (by cases h), fun _ h => (by cases h), fun _ h => (by cases h), Nat.zero_le _⟩
  | x :: r, 0, _, hl => absurd hl (by simp)
  | x :: r, n + 1, h, hl => by
    have z := ((h x List.mem_cons_self).cons (shs_of (n := n) (fun y hy => h y (List.mem_cons_of_mem _ hy)) (by rw [List.length_cons] at hl; omega)))
    refine z.mono (Nat.le_refl _) ?_
    rw [Nat.add_mul]
    omega
theorem sh_non {k b : Nat} : Sh k b .none := ⟨rfl, rfl, Nat.zero_le _, Nat.zero_le _⟩
theorem Sh.tupn {k b n : Nat} {ds : List PyData} (h : ∀ x ∈ ds, Sh k b x) (hl : ds.length ≤ n) : Sh (k + 1) (n * (b + 1)) (.tuple ds) := (shs_of h hl).tup
theorem look_in {β : Type} {l : List (Str × β)} {k : Str} {x : β} (h : l.lookup k = some x) : (k, x) ∈ l := by
  induction l with
  | nil => cases h
  | cons a r ih =>
    obtain ⟨a1, a2⟩ := a
    simp only [List.lookup] at h
    split at h
    · rename_i c
      cases h
      rw [eq_of_beq c]
      exact List.mem_cons_self
    · exact List.mem_cons_of_mem _ (ih h)
theorem shi {k b : Nat} {i : Int} (h0 : 0 ≤ i) (h1 : i ≤ 65536) : Sh k b (.int i) := (sh_int (by omega) (by omega)).mono (Nat.zero_le _) (Nat.zero_le _)
theorem ins_sh {bb : Bool} {lims : Lims} {fs : List Int} {d : PyData} (hl : ∀ e ∈ lims, 0 ≤ e.2.1 ∧ e.2.2 ≤ 65535) (hf : ∀ u : Nat, fs.getD u 0 ≤ 65535) (h : okIns bb lims fs d = true) : Sh 1 28 d ∧ nar d = true := by
  unfold okIns at h
  split at h
  · rename_i w r
    cases e : kindsOf bb w with
    | none =>
      rw [e] at h
      cases h
    | some ks =>
      rw [e] at h
      have h' : (decide (r.length = ks.length) && okOps lims fs (.str w :: r) ks) = true := h
      rw [Bool.and_eq_true, decide_eq_true_eq] at h'
      obtain ⟨hlen, ho⟩ := h'
      have mem : w ∈ (["number", "copy", "add", "read", "write", "fail", "input", "show", "branch", "call", "wake"] : List Str) ∧ ks.length ≤ 3 := by
        have z : ∀ e ∈ formsI ++ formsF, e.1 ∈ (["number", "copy", "add", "read", "write", "fail", "input", "show", "branch", "call", "wake"] : List Str) ∧ e.2.length ≤ 3 := by decide +kernel
        have m : (w, ks) ∈ formsI ++ formsF := by
          unfold kindsOf at e
          split at e
          · exact List.mem_append_left _ (look_in e)
          · split at e
            · exact List.mem_append_right _ (look_in e)
            · cases e
        exact z _ m
      have allI : ∀ x ∈ r, ∃ j : Int, x = .int j ∧ 0 ≤ j ∧ j ≤ 65535 := fun x hx => by
        obtain ⟨i, hi⟩ := List.getElem?_of_mem hx
        have il := (List.getElem?_eq_some_iff.mp hi).1
        unfold okOps at ho
        rw [List.all_eq_true] at ho
        have z := ho i (List.mem_range.mpr (by omega))
        rw [show (PyData.str w :: r).getD (i + 1) .none = x from getD_at hi] at z
        unfold okOp at z
        split at z
        · split at z
          · rename_i u0 _
            obtain ⟨j, rfl, j0, j1⟩ := isIn_int z
            have := hf u0.toNat
            exact ⟨j, rfl, j0, by omega⟩
          · cases z
        · split at z
          · rename_i lo hi' hlk
            obtain ⟨j, rfl, j0, j1⟩ := isIn_int z
            obtain ⟨b1, b2⟩ := hl _ (look_in hlk)
            dsimp only at b1 b2
            exact ⟨j, rfl, by omega, by omega⟩
          · cases z
      refine ⟨Sh.tupn (k := 0) (b := 6) (n := 4) (fun x hx => ?_) (by rw [List.length_cons]; omega), nar_tup.mpr ⟨by rw [List.length_cons]; omega, fun x hx => ?_⟩⟩
      · rcases List.mem_cons.mp hx with rfl | hx
        · exact sh_wordI mem.1
        · obtain ⟨j, rfl, j0, j1⟩ := allI x hx
          exact shi j0 (by omega)
      · rcases List.mem_cons.mp hx with rfl | hx
        · rfl
        · obtain ⟨j, rfl, _⟩ := allI x hx
          rfl
  · cases h
theorem fs_small {us : List PyData} (h : ∀ (i : Nat) (u : PyData), us[i]? = some u → ∃ (p : PyData) (fz : Int) (b : PyData), u = .tuple [p, .int fz, b] ∧ fz ≤ 3) (u : Nat) : (us.map fieldsD).getD u 0 ≤ 65535 := by
  rw [List.getD_eq_getElem?_getD, List.getElem?_map]
  cases e : us[u]? with
  | none =>
    show (0 : Int) ≤ 65535
    decide
  | some x =>
    obtain ⟨p, fz, b, rfl, f1⟩ := h u x e
    show fz ≤ 65535
    omega
theorem sh_prog {us fns : List PyData} (ok : okProg (.tuple [.tuple us, .tuple fns]) = true) : (∀ u ∈ us, Sh 3 525 u ∧ nar u = true) ∧ (∀ f ∈ fns, Sh 3 466 f ∧ nar f = true) ∧ Sh 5 6314 (.tuple [.tuple us, .tuple fns]) ∧ nar (.tuple [.tuple us, .tuple fns]) = true := by
  obtain ⟨us', fns', e, u1, u6, f1, f4, hus, hfs⟩ := prog_parts ok
  cases e
  have fss := fs_small (us := us) fun i u hi => by
    obtain ⟨p, fz, is, rfl, _, z3, _⟩ := hus i u hi
    exact ⟨p, fz, _, rfl, z3⟩
  have hU : ∀ u ∈ us, Sh 3 525 u ∧ nar u = true := by
    intro u hm
    obtain ⟨k, hk⟩ := List.getElem?_of_mem hm
    obtain ⟨p, fz, is, rfl, z0, z3, i6, hall, hp⟩ := hus k u hk
    rw [List.all_eq_true] at hall
    have hi : ∀ b ∈ is, Sh 1 28 b ∧ nar b = true := fun b hb => ins_sh (by
      intro e he
      simp only [limsI, List.mem_cons, List.not_mem_nil, or_false] at he
      rcases he with rfl | rfl | rfl
      · exact ⟨by show (0 : Int) ≤ 0; omega, by show (2 : Int) ≤ 65535; omega⟩
      · exact ⟨by show (0 : Int) ≤ 0; omega, by show (65535 : Int) ≤ 65535; omega⟩
      · exact ⟨by show (0 : Int) ≤ 0; omega, by show ((us.length : Nat) : Int) - 1 ≤ 65535; omega⟩) fss (hall b hb)
    refine ⟨(Sh.tupn (k := 2) (b := 174) (n := 3) (fun x hx => ?_) (by show 3 ≤ 3; decide)).mono (by decide) (by decide), nar_tup.mpr ⟨by show 3 ≤ 100; decide, fun x hx => ?_⟩⟩
    · simp only [List.mem_cons, List.not_mem_nil, or_false] at hx
      rcases hx with rfl | rfl | rfl
      · rcases hp with rfl | ⟨k, rfl, k0, k5⟩
        · exact sh_non
        · exact shi k0 (by omega)
      · exact shi z0 (by omega)
      · exact (Sh.tupn (fun x hx => (hi x hx).1) i6).mono (by decide) (by decide)
    · simp only [List.mem_cons, List.not_mem_nil, or_false] at hx
      rcases hx with rfl | rfl | rfl
      · rcases hp with rfl | ⟨k, rfl, _⟩ <;> rfl
      · rfl
      · exact nar_tup.mpr ⟨by omega, fun x hx => (hi x hx).2⟩
  have hF : ∀ f ∈ fns, Sh 3 466 f ∧ nar f = true := by
    intro f hm
    obtain ⟨k, hk⟩ := List.getElem?_of_mem hm
    have kl := (List.getElem?_eq_some_iff.mp hk).1
    obtain ⟨u, bs, rfl, z0, z1, b1, b8, hall⟩ := hfs k f hk
    have hi : ∀ b ∈ bs, Sh 1 28 b ∧ nar b = true := fun b hb => by
      obtain ⟨j, hj⟩ := List.getElem?_of_mem hb
      have jl := (List.getElem?_eq_some_iff.mp hj).1
      refine ins_sh ?_ fss (hall j b hj)
      intro e he
      simp only [limsF, limsE, limsI, List.mem_append, List.mem_cons, List.not_mem_nil, or_false] at he
      rcases he with (((rfl | rfl | rfl) | rfl) | rfl) | rfl
      · exact ⟨by show (0 : Int) ≤ 0; omega, by show (2 : Int) ≤ 65535; omega⟩
      · exact ⟨by show (0 : Int) ≤ 0; omega, by show (65535 : Int) ≤ 65535; omega⟩
      · exact ⟨by show (0 : Int) ≤ 0; omega, by show ((us.length : Nat) : Int) - 1 ≤ 65535; omega⟩
      · exact ⟨by show (0 : Int) ≤ 0; omega, by show ((bs.length : Nat) : Int) ≤ 65535; omega⟩
      · exact ⟨by show (0 : Int) ≤ (k : Int) + 1; omega, by show ((fns.length : Nat) : Int) - 1 ≤ 65535; omega⟩
      · exact ⟨by show (0 : Int) ≤ (j : Int) + 1; omega, by show ((bs.length : Nat) : Int) ≤ 65535; omega⟩
    refine ⟨(Sh.tupn (k := 2) (b := 232) (n := 2) (fun x hx => ?_) (by show 2 ≤ 2; decide)).mono (by decide) (by decide), nar_tup.mpr ⟨by show 2 ≤ 100; decide, fun x hx => ?_⟩⟩
    · simp only [List.mem_cons, List.not_mem_nil, or_false] at hx
      rcases hx with rfl | rfl
      · exact shi z0 (by omega)
      · exact (Sh.tupn (fun x hx => (hi x hx).1) b8).mono (by decide) (by decide)
    · simp only [List.mem_cons, List.not_mem_nil, or_false] at hx
      rcases hx with rfl | rfl
      · rfl
      · exact nar_tup.mpr ⟨by omega, fun x hx => (hi x hx).2⟩
  refine ⟨hU, hF, (Sh.tupn (k := 4) (b := 3156) (n := 2) (fun x hx => ?_) (by show 2 ≤ 2; decide)).mono (by decide) (by decide), nar_tup.mpr ⟨by show 2 ≤ 100; decide, fun x hx => ?_⟩⟩
  · simp only [List.mem_cons, List.not_mem_nil, or_false] at hx
    rcases hx with rfl | rfl
    · exact (Sh.tupn (fun x hx => (hU x hx).1) u6).mono (by decide) (by decide)
    · exact (Sh.tupn (fun x hx => (hF x hx).1) f4).mono (by decide) (by decide)
  · simp only [List.mem_cons, List.not_mem_nil, or_false] at hx
    rcases hx with rfl | rfl
    · exact nar_tup.mpr ⟨by omega, fun x hx => (hU x hx).2⟩
    · exact nar_tup.mpr ⟨by omega, fun x hx => (hF x hx).2⟩
end FW
set_option Elab.async false
set_option linter.all false
set_option maxRecDepth 100000
set_option maxHeartbeats 4000000
namespace FW
open PySem PySem.Spec PyProof.Rows L2
open Evl (pss_cut tCut)
open Evl (Ex Ev EvT EvA EvL EvU RC RV fresh_back ev_var ev_c ea_nil ea_cons ev_cb ev_op ev_is ev_andV ev_orV ev_notV et_test et_B et_and et_or et_not et_is s_ret s_when q_when q_asg q_asgL q_asgU rv_I0 rv_eq rv_ne rv_ixT rv_ixL)
structure TLaw (K : PySem.W.Frag) (P : Params) (mg : Str → Option Value) : Prop where
  b_repr : mg "repr" = none
  b_range : mg "range" = none
  b_list : mg "list" = none
  b_tuple : mg "tuple" = none
  b_len : mg "len" = none
  b_isinstance : mg "isinstance" = none
  b_int : mg "int" = none
  bent : TBent K mg
  chk : TChk K P mg
  acc : TAcc K P mg
  d_law : Df K mg "law" s_law
section
variable {P : Program} {w : World} {K : PySem.W.Frag} {mg : Str → Option Value} {base : Heap}
def spInp : Sp := fun vs H Q _ => ∃ (p : Addr) (B : Nat) (m : Int), vs = [.ref p, .int m] ∧ Pen H p B ∧ B ≤ 100000000 ∧ 0 ≤ m ∧ m ≤ 900 ∧ ∀ (H' : Hp) (l : Addr) (zs : List Int), PAt p (B + 5000) H H' → H l = none → H' l = some (.lst (zs.map V.int)) → zs.length ≤ m.toNat → (∀ z ∈ zs, 0 ≤ z ∧ z ≤ 65535) → Q (.ref l) H'
theorem ok_inp (T : TBent K mg) : Ok P w K mg base CX0 5 "_law_draw_inputs" ["pen", "many"] spInp := by
  have G__law_take : Ok P w K mg base CX0 2 "_law_take" ["pen", "amount"] spTake := ok_take T.toTPen
  have G__law_one_of : Ok P w K mg base CX0 3 "_law_one_of" ["pen", "some"] spPick := ok_pick T.toTDraw
  have G__law_number : Ok P w K mg base CX0 4 "_law_number" ["pen"] spNumber := ok_number T.toTDraw
  refine T.d_inputs.ok sc__law_draw_inputs bi__law_draw_inputs (fun vs H Q E h => ?_) (fun cdv A outer s H f vs Q E hr h => ?_)
  · obtain ⟨p, B, m, rfl, _⟩ := h
    rfl
  · obtain ⟨p, B, m, rfl, hp, hB, m0, m1, q⟩ := h
    refine ⟨_, (pss_one (ps_ret (pe_lc (own := [("k", 2)]) rfl sc__law_draw_inputs.nd (pi_range1 (by rfl) T.b_range (pa_cons (pe_callO G__law_take (hr.mono (by decide)) (pa_cons (pv 0) (pa_cons (pe_op op_add (pv 1) pe_int) pa_nil))) pa_nil)) (blkOk_by (N := N__law_draw_inputs) (sc := defScope s__law_draw_inputs) (by decide +kernel)) (fun _ _ _ _ _ => (pg_name (i := 2) sc__law_draw_inputs.nd rfl (Or.inl rfl))) (fun _ _ _ _ _ => pts_nil) (fun _ _ _ _ _ => (pe_callO G__law_one_of (hr.mono (by decide)) (pa_cons (pv 0) (pa_cons (pe_lst (pa_cons pe_int (pa_cons pe_int (pa_cons pe_int (pa_cons (pe_callO G__law_number (hr.mono (by decide)) (pa_cons (pv 0) pa_nil)) pa_nil))))) pa_nil))))))), ?_⟩
    refine tlcI (Q := Q) ?_
    refine ⟨_, rfl, _, rfl, m, 1, rfl, rfl, p, _, B, rfl, hp, by omega, by omega, by omega, fun H1 r s1 p1 r0 r1 => ?_⟩
    have c1 := (PAt.refl hp).take s1 p1
    refine ⟨r, rfl, by omega, by omega, ?_⟩
    refine lcP (c := 4) (B := B + 1) (n := r.toNat) (fun H v => ∃ i, v = .int i ∧ 0 ≤ i ∧ i ≤ 65535) (fun _ _ _ _ g => g) c1.pen (by omega) ?_ (fun k H2 hk c2 Q' q' => ?_) (fun D H2 ys c2 nD hD hlen hys => ?_)
    · exact fun _ => rfl
    · refine ⟨_, rfl, _, rfl, p, _, rfl, c2.pen, by omega, fun H3 i c3 i0 i1 => ?_⟩
      refine ⟨sz_of (by show 4 ≤ 100000; decide), fun l nl => ?_⟩
      have c4 := c3.new nl (o := .lst [V.int 0, .int 1, .int 1, .int i])
      refine ⟨p, l, _, _, rfl, c4.pen, by omega, off_of upd_same (c3.pen.ne nl), (by show 0 < 4; decide), (by show 4 < 1000000; decide), fun H5 x s5 p5 hx => ?_⟩
      refine q' x H5 ((c4.take s5 p5).mono (by omega)) ?_
      simp only [List.mem_cons, List.not_mem_nil, or_false] at hx
      rcases hx with rfl | rfl | rfl | rfl
      · exact ⟨_, rfl, by decide, by decide⟩
      · exact ⟨_, rfl, by decide, by decide⟩
      · exact ⟨_, rfl, by decide, by decide⟩
      · exact ⟨_, rfl, i0, i1⟩
    obtain ⟨zs, rfl, hzs⟩ := ints_of hys
    rw [List.length_map] at hlen
    refine q H2 D zs ((c1.trans c2).mono (by omega)) ?_ hD (by omega) hzs
    cases e : H D with
    | none => rfl
    | some o =>
      have z := c1.ex _ _ (off_of e (c1.pen.ne nD))
      rw [off_ne (c1.pen.ne nD), nD] at z
      cases z
/-! #### data drawn in a comprehension -/
theorem offL_two {H H' : Hp} {p D : Addr} {B : Nat} (c : PAt p B H H') (n : H D = none) : Ex (offL H [p]) (offL H' [p, D]) := fun b o e => by
  obtain ⟨h1, h2⟩ := offL_some e
  have hp : b ≠ p := fun z => h1 (z ▸ List.mem_singleton.mpr rfl)
  have hD : b ≠ D := ne_of_none h2 n
  exact offL_of (off_sub _ _ (c.ex _ _ (off_of h2 hp))) (by simp [hp, hD])
theorem offL_one {H : Hp} {p D : Addr} : Ex (offL H [p, D]) (offL H [p]) := fun b o e => by
  obtain ⟨h1, h2⟩ := offL_some e
  exact offL_of h2 fun z => h1 (by simp at z; simp [z])
theorem lcS {te : TE} {σ : L2.St} {vs : List Nat} {j : Nat} {Q : VK} {p : Addr} {B c n : Nat} {H1 : Hp} (G : PyData → Prop) (pen : Pen H1 p B) (hn : n ≤ 1000) (hw : ∀ x, wipe ((wipe σ vs).set j (some x)) vs = wipe σ vs)
    (he : ∀ (k : Nat) H2 D, k < n → PAt p (B + c * k) H1 H2 → Ex (offL H1 [p]) (offL H2 [p, D]) → AllS H2 [p, D] → ∀ Q' : VK, (∀ y H3 d, PAt p (B + c * (k + 1)) H2 H3 → Da (offL H3 [p, D]) y d → G d → Q' y H3) → te ((wipe σ vs).set j (some (.int (k : Nat)))) H2 Q')
    (hd : ∀ D H2 ys ds, PAt p (B + c * n) H1 H2 → H1 D = none → H2 D = some (.lst ys) → ds.length = n → DaAll (offL H2 [p]) ys ds → (∀ d ∈ ds, G d) → Q (.ref D) H2) : LcRest te σ vs j Q n H1 := by
  intro D hD
  refine lc_it (walk_range (lo := 0) (n := n)) (fun i H' => PAt p (B + c * i) H1 H' ∧ ∃ ys ds, H' D = some (.lst ys) ∧ ds.length = i ∧ DaAll (offL H' [p, D]) ys ds ∧ ∀ d ∈ ds, G d) ⟨(PAt.refl pen).new hD, [], [], upd_same, rfl, .nil, fun y hy => by cases hy⟩ (fun _ _ _ _ => trivial) ?_ ?_
  · rintro i x H' H'' hi ⟨c1, ys, ds, h1, h2, h3, h4⟩ ⟨rfl, rfl⟩
    refine ⟨hw _, ?_⟩
    show te ((wipe σ vs).set j (some (.int (0 + (i : Int))))) _ _
    rw [show (0 : Int) + (i : Int) = (i : Int) from Int.zero_add _]
    have all : AllS H'' [p, D] := fun s hs => by
      simp only [List.mem_cons, List.not_mem_nil, or_false] at hs
      rcases hs with rfl | rfl
      · exact c1.pen.some
      · exact ⟨_, h1⟩
    refine he i _ D hi c1 (offL_two c1 hD) all _ fun y H3 d c2 dy g => ?_
    have Dp : D ≠ p := pen.ne hD
    have hD3 : H3 D = some (.lst ys) := off_sub _ _ (c2.ex _ _ (off_of h1 Dp))
    have eU : Ex (offL H3 [p, D]) (offL (upd H3 D (.lst (ys ++ [y]))) [p, D]) := fun b o e => by
      obtain ⟨q1, q2⟩ := offL_some e
      have hb : b ≠ D := fun z => q1 (by simp [z])
      exact offL_of (by rw [upd_ne hb]; exact q2) q1
    have ly := h3.len
    refine ⟨ys, hD3, sz_lt (by omega), (c1.trans c2).upd pen hD, ys ++ [y], ds ++ [d], upd_same, by rw [List.length_append, h2]; rfl, ?_, fun z hz => ?_⟩
    · exact ((h3.ex (offL_off (by simp) c2.ex)).app (.cons dy .nil)).ex eU
    · rw [List.mem_append, List.mem_singleton] at hz
      rcases hz with hz | rfl
      · exact h4 z hz
      · exact g
  · rintro H' ⟨c1, ys, ds, h1, h2, h3, h4⟩
    exact hd D H' ys ds c1 hD h1 h2 (h3.ex offL_one) h4
theorem ExT.offL1 {H : Hp} {p : Addr} {B : Nat} (h : Pen H p B) : ExT H (offL H [p]) := fun a xs e => offL_of e (by
  intro z
  rw [List.mem_singleton] at z
  subst z
  obtain ⟨c, cs, at', r, h1, _⟩ := h
  rw [h1] at e
  cases e)
/-! #### the values are small -/
theorem mem_rep {α : Type} {l : List α} {x : α} : ∀ {n : Nat}, x ∈ (List.replicate n l).flatten → x ∈ l
  | 0, h => by cases h
  | n + 1, h => by
    rw [List.replicate_succ, List.flatten_cons, List.mem_append] at h
    exact h.elim id mem_rep
theorem len_rep {α : Type} {l : List α} : ∀ n : Nat, (List.replicate n l).flatten.length = n * l.length
  | 0 => by rw [Nat.zero_mul]; rfl
  | n + 1 => by rw [List.replicate_succ, List.flatten_cons, List.length_append, len_rep n, Nat.add_mul, Nat.one_mul, Nat.add_comm]
theorem sh_two {A B : List PyData} (hA : ∀ x ∈ A, Sh 3 5000 x) (lA : A.length ≤ 42) (hB : ∀ x ∈ B, Sh 3 5000 x) (lB : B.length ≤ 42) : Sh 12 600000 (.tuple [.tuple A, .tuple B]) := by
  refine (Sh.tupn (k := 4) (b := 42 * 5001) (n := 2) (fun x hx => ?_) (by show 2 ≤ 2; decide)).mono (by decide) (by decide)
  simp only [List.mem_cons, List.not_mem_nil, or_false] at hx
  rcases hx with rfl | rfl
  · exact Sh.tupn hA lA
  · exact Sh.tupn hB lB
def unitD : PyData := .tuple [.none, .int 0, .tuple [.tuple [.str "show", .int 0]]]
theorem sh_unitD : Sh 3 5000 unitD := ⟨by decide +kernel, by decide +kernel, by decide +kernel, by decide +kernel⟩
/-- what stands of the values that were made of a program -/
theorem sh_values {us fns bs0 : List PyData} {u0 : Int} (ok : okProg (.tuple [.tuple us, .tuple fns]) = true) (hf0 : fns[0]? = some (.tuple [.int u0, .tuple bs0])) : ∀ d ∈ ([.tuple [.tuple us, .tuple fns], .tuple [.tuple (List.replicate 7 us).flatten, .tuple fns], .tuple [.tuple us, .tuple (List.replicate 5 fns).flatten], .tuple [.tuple (us.take 0), .tuple fns]] ++
    [.tuple [.tuple (us.take 5 ++ [unitD]), .tuple fns], .tuple [.tuple us, .tuple (fns.take 3 ++ [.tuple [.int 0, .tuple (List.replicate 9 bs0).flatten]])]] ++ [.tuple [.tuple us, .tuple (fns.take 0)]] : List PyData), Sh 12 600000 d := by
  obtain ⟨us', fns', e, u1, u6, f1, f4, _⟩ := prog_parts ok
  cases e
  obtain ⟨sU, sF, sP, nP⟩ := sh_prog ok
  have U : ∀ x ∈ us, Sh 3 5000 x := fun x hx => (sU x hx).1.mono (by decide) (by decide)
  have F : ∀ x ∈ fns, Sh 3 5000 x := fun x hx => (sF x hx).1.mono (by decide) (by decide)
  have bb : Sh 3 5000 (.tuple [.int 0, .tuple (List.replicate 9 bs0).flatten]) := by
    have S0 := ((sF _ (List.mem_of_getElem? hf0)).1.tupI.mem (d := .tuple bs0) (List.mem_cons_of_mem _ List.mem_cons_self)).tupI
    have B := S0.bk
    have R := bulkAll_rep bs0 9
    have S9 := S0.sub (es := (List.replicate 9 bs0).flatten) fun x hx => mem_rep hx
    exact ((shi (k := 2) (b := 0) (i := 0) (by decide) (by decide)).cons (S9.tup.cons shs_nil)).tup.mono (by decide) (by omega)
  intro d hd
  simp only [List.mem_append, List.mem_cons, List.not_mem_nil, or_false] at hd
  rcases hd with ((rfl | rfl | rfl | rfl) | (rfl | rfl)) | rfl
  · exact sP.mono (by decide) (by decide)
  · exact sh_two (fun x hx => U x (mem_rep hx)) (by rw [len_rep]; omega) F (by omega)
  · exact sh_two U (by omega) (fun x hx => F x (mem_rep hx)) (by rw [len_rep]; omega)
  · exact sh_two (fun x hx => U x (List.mem_of_mem_take hx)) (by rw [List.length_take]; omega) F (by omega)
  · refine sh_two (fun x hx => ?_) (by rw [List.length_append, List.length_take, List.length_singleton]; omega) F (by omega)
    rw [List.mem_append, List.mem_singleton] at hx
    rcases hx with hx | rfl
    · exact U x (List.mem_of_mem_take hx)
    · exact sh_unitD
  · refine sh_two U (by omega) (fun x hx => ?_) (by rw [List.length_append, List.length_take, List.length_singleton]; omega)
    rw [List.mem_append, List.mem_singleton] at hx
    rcases hx with hx | rfl
    · exact F x (List.mem_of_mem_take hx)
    · exact bb
  · exact sh_two U (by omega) (fun x hx => F x (List.mem_of_mem_take hx)) (by rw [List.length_take]; omega)
end
end FW
set_option Elab.async false
set_option linter.all false
set_option maxRecDepth 100000
set_option maxHeartbeats 4000000
namespace FW
open PySem PySem.Spec PyProof.Rows L2
open Evl (pss_cut tCut)
open Evl (Ex Ev EvT EvA EvL EvU RC RV fresh_back ev_var ev_c ea_nil ea_cons ev_cb ev_op ev_is ev_andV ev_orV ev_notV et_test et_B et_and et_or et_not et_is s_ret s_when q_when q_asg q_asgL q_asgU rv_I0 rv_eq rv_ne rv_ixT rv_ixL s_if)
section
variable {K : PySem.W.Frag} {σ : L2.St} {H : Hp} {te ta tb ts : TE} {v : V} {d : PyData}
theorem ev_repr (h : Ev te σ H v) (hd : Da H v d) (r : RepD d) : Ev (tCB rReprD (tCons te tNil)) σ H (.str d.shown) := ev_cb (ea_cons h ea_nil) fun H1 e Q q => ⟨v, d, rfl, hd.ex e, r, q H1 (Ex.refl _)⟩
theorem ev_same {b : Bool} (ha : Ev ta σ H (.bl b)) (hb : Ev tb σ H (.bl b)) : Ev (tCall (spSame 3) [] E0 (tCons ta (tCons tb tNil))) σ H (.bl true) :=
  sv_ret (fun H1 e Q q => ⟨_, _, .bool b, rfl, .bl _, .bl _, rfl, Nat.zero_le _, q⟩) (ea_cons ha (ea_cons hb ea_nil))
theorem ev_isProg (h : Ev te σ H v) (hd : Da H v d) : Ev (tCall spProg [] E0 (tCons te tNil)) σ H (.bl (okProg d)) := sv_ret (fun H1 e Q q => ⟨v, d, rfl, hd.ex e, q⟩) (ea_cons h ea_nil)
theorem ev_isInp (h : Ev te σ H v) (hd : Da H v d) : Ev (tCall spInputs [] E0 (tCons te tNil)) σ H (.bl (inpD d)) := sv_ret (fun H1 e Q q => ⟨v, d, rfl, hd.ex e, q⟩) (ea_cons h ea_nil)
theorem et_bad {i : Nat} (hs : Ev ts σ H (.bl true)) (hi : σ[i]? = some (some (.str d.shown))) (h : Ev te σ H v) (hd : Da H v d) (r : RepD d) : EvT (tOr (tNot (tB ts)) (tTest (tOp rNe (tCB rReprD (tCons te tNil)) (tVar i)))) σ H false :=
  et_is (et_or (a := false) (b := false) (et_is (et_not (a := true) (et_B hs)) rfl) fun _ => et_is (et_test (ev_op (ev_repr h hd r) (ev_var hi) (rv_ne rfl))) (by simp)) rfl
/-- for x in a list of data, in a suite that only makes new objects -/
theorem for_da {tu tz : TS} {D : Ends} {S : List Addr} {ds : List PyData} {j : Nat} (h : EvDw S te σ H ds) (Pv : L2.St → Prop) (h0 : Pv σ)
    (hs : ∀ H1, Ex H H1 → ∀ x d σ' H', Ex H1 H' → Pv σ' → d ∈ ds → Da H' x d → tu { D with nx := fun σ2 H2 => Pv σ2 ∧ Ex H1 H2, ct := fun σ2 H2 => Pv σ2 ∧ Ex H1 H2, bk := tz D } (σ'.set j (some x)) H')
    (k : ∀ σ' H', Ex H H' → Pv σ' → tz D σ' H') : tSeq (tFor (iList K te) (gName j) tu) tz D σ H :=
  h H (Ex.refl _) _ fun l xs H1 e1 hl hd => ⟨l, rfl, ⟨xs, .inl (.inl hl)⟩, for_it (D := { D with nx := tz D }) (walk_list (xs := xs)) (fun _ σ' H' => Pv σ' ∧ Ex H1 H') ⟨h0, Ex.refl _⟩ (fun _ _ _ _ p => .inl (.inl (p.2 _ _ hl)))
    (fun i x σ' H' H'' hi p y => by
      obtain ⟨rfl, hx⟩ := y
      obtain ⟨d, hd1, hd2⟩ := hd.at hx
      exact hs H1 e1 x d σ' H'' p.2 p.1 (List.mem_of_getElem? hd1) ((hd2.ex offL_sub).ex p.2)) (fun σ' H' p => k σ' H' (e1.trans p.2) p.1)⟩
theorem q_par {tz : TS} {D : Ends} {i j : Nat} {tx : TA} {x y : V} (h : EvA tx σ H [x, y]) (k : ∀ H1, Ex H H1 → tz D ((σ.set i (some x)).set j (some y)) H1) : tSeq (tPar i j tx) tz D σ H := h H (Ex.refl H) _ fun H1 e => ⟨x, y, rfl, k H1 e⟩
def lenD : PyData → Nat
  | .list ds => ds.length
  | _ => 0
def dueD (d : PyData) : Bool := isTy d "list" && decide (lenD d ≤ 100)
theorem ev_due (h : Ev te σ H v) (hd : Da H v d) : Ev (tAndV (tCB (rIsi K) (tCons te (tCons (tC (.ty "list")) tNil))) (tOp (rI0 fun i j => V.bl (decide (i < j))) (tCB (fun xs H Q => ∃ p ys, xs = [.ref p] ∧ (SqL K H p ys ∨ SqT K H p ys) ∧ Q (.int ys.length) H) (tCons te tNil)) (tC (.int 101)))) σ H (.bl (dueD d)) :=
  ev_andV (ev_isi h hd (.inr (.inr (.inr (.inr rfl))))) fun ha => by
    rw [ty_list] at ha
    cases hd with
    | @lst a xs ds h1 h2 =>
      have hl := h2.len
      refine ev_is (ev_op (ev_lenL (K := K) h (sl_of h1)) ev_c rv_I0) ?_
      rw [hl]
      exact congrArg V.bl (decide_eq_decide.mpr (by show (ds.length : Int) < 101 ↔ ds.length ≤ 100; omega))
    | _ => cases ha
theorem ev_due2 {y0 y1 y2 y3 y4 y5 y6 y7 y8 y10 y11 y12 y14 y15 : Option V} (hd : Da H v d) : Ev (tAndV (tVar 13) (tOp (rIn K true) (tC (.bl false)) (tLc (iList K (tVar 9)) (gName 14) tYes (tCall spWithin [] E0 (tCons (tVar 14) (tCons (tC (.int 0)) (tCons (tC (.int 65535)) tNil)))) [14])))
    [y0, y1, y2, y3, y4, y5, y6, y7, y8, some v, y10, y11, y12, some (.bl (dueD d)), y14, y15] H (.bl (inpD d)) := by
  refine ev_is (ev_andV (a := dueD d) (b := inpD d) (ev_var rfl) fun ha => ?_) ?_
  · unfold dueD at ha
    rw [Bool.and_eq_true, decide_eq_true_eq, ty_list] at ha
    obtain ⟨ha, hz⟩ := ha
    cases hd with
    | @lst a xs ds h1 h2 =>
      have hl := h2.len
      have hz : ds.length ≤ 100 := hz
      have el := el_lcLs (K := K) (xs := xs) (te := tCall spWithin [] E0 (tCons (tVar 14) (tCons (tC (.int 0)) (tCons (tC (.int 65535)) tNil)))) (tx := tVar 9) (σ := [y0, y1, y2, y3, y4, y5, y6, y7, y8, some (.ref a), y10, y11, y12, some (.bl (dueD (.list ds))), y14, y15]) (H := H) (j := 14) (vs := [14]) (fun i => .bl (isIn (ds.getD i .none) 0 65535)) (ev_var rfl) h1 (by omega) (fun _ => rfl) (fun k x H1 x1 hk => by
        obtain ⟨dk, e1, dd⟩ := h2.at hk
        rw [getD_at e1]
        exact sv_ret (fun H4 e Q q => ⟨x, dk, 0, 65535, rfl, (dd.ex x1).ex e, q⟩) (ea_cons (ev_var rfl) (ea_cons ev_c (ea_cons ev_c ea_nil))))
      refine ev_is (Evl.ev_opL ev_c el fun p2 H6 hp2 _ => Evl.rv_inL (sl_of hp2) rfl flat_bls) ?_
      rw [if_pos rfl, inV_false, Bool.not_not, hl]
      show V.bl ((List.range ds.length).all fun i => isIn (ds.getD i .none) 0 65535) = V.bl (decide (ds.length ≤ 100) && (List.range ds.length).all fun i => isIn (ds.getD i .none) 0 65535)
      rw [decide_eq_true hz, Bool.true_and]
    | _ => cases ha
  · unfold dueD
    rw [ty_list]
    cases d with
    | list ds =>
      show V.bl ((true && decide (ds.length ≤ 100)) && (decide (ds.length ≤ 100) && _)) = V.bl (decide (ds.length ≤ 100) && _)
      rw [Bool.true_and, ← Bool.and_assoc, Bool.and_self]
    | _ => rfl
theorem spots_form {nm x : PyData} {bs : List PyData} (h : x ∈ spots nm bs) : ∃ j : Nat, x = .tuple [nm, .int (j : Nat)] := by
  obtain ⟨j, _, rfl⟩ := List.mem_map.mp h
  exact ⟨j, rfl⟩
theorem bods_form {us fns : List PyData} {b : PyData × List PyData} (h : b ∈ bodsD us fns) : ∃ (w : Str) (i : Nat), b.1 = .tuple [.str w, .int (i : Nat)] := by
  unfold bodsD bodsN at h
  rcases List.mem_append.mp h with h | h
  · obtain ⟨i, _, rfl⟩ := List.mem_map.mp h
    exact ⟨_, i, rfl⟩
  · obtain ⟨i, _, rfl⟩ := List.mem_map.mp h
    exact ⟨_, i, rfl⟩
theorem acc_cmp {us fns : List PyData} (ok : okProg (.tuple [.tuple us, .tuple fns]) = true) : cmpD (.list (accD (.tuple [.tuple us, .tuple fns]))) = true ∧ (PyData.list (accD (.tuple [.tuple us, .tuple fns]))).depth ≤ 3 ∧ (accD (.tuple [.tuple us, .tuple fns])).length ≤ 80 := by
  have bv := bod_view ok
  have ln := accN_len (fun b hb => (bv b hb).len) (bodsD us fns).length
  rw [accN_all] at ln
  obtain ⟨us', fns', e, u1, u6, f1, f4, _⟩ := prog_parts ok
  cases e
  have bl : (bodsD us fns).length = fns.length + us.length := by
    unfold bodsD bodsN
    rw [List.length_append, List.length_map, List.length_map, List.length_range, List.length_range]
  have ln : (accD (.tuple [.tuple us, .tuple fns])).length ≤ 8 * (bodsD us fns).length := ln
  have fm : ∀ x ∈ accD (.tuple [.tuple us, .tuple fns]), ∃ (w : Str) (i j : Nat), x = .tuple [.tuple [.str w, .int (i : Nat)], .int (j : Nat)] := fun x hx => by
    obtain ⟨l, hl, hx⟩ := List.mem_flatten.mp (show x ∈ ((bodsD us fns).map fun b => spots b.1 b.2).flatten from hx)
    obtain ⟨b, hb, rfl⟩ := List.mem_map.mp hl
    obtain ⟨w, i, e⟩ := bods_form hb
    obtain ⟨j, rfl⟩ := spots_form hx
    exact ⟨w, i, j, by rw [e]⟩
  refine ⟨?_, ?_, by omega⟩
  · show (decide _ && cmpDs _) = true
    rw [Bool.and_eq_true, decide_eq_true_eq, cmpA]
    refine ⟨by omega, fun x hx => ?_⟩
    obtain ⟨w, i, j, rfl⟩ := fm x hx
    rfl
  · show PyData.depthAll _ + 1 ≤ 3
    refine Nat.succ_le_succ (dpA.mpr fun x hx => ?_)
    obtain ⟨w, i, j, rfl⟩ := fm x hx
    exact Nat.le_refl 2
/-- small whole numbers as data -/
theorem da_ints : ∀ {ys : List V}, (∀ y ∈ ys, ∃ i : Int, y = .int i ∧ 0 ≤ i ∧ i ≤ 65535) → ∃ ds, ds.length = ys.length ∧ (∀ H, DaAll H ys ds) ∧ ∀ d ∈ ds, Sh 2 20 d
  | [], _ => ⟨[], rfl, fun _ => .nil, fun d h => by cases h⟩
  | y :: ys, h => by
    obtain ⟨ds, l1, d1, g1⟩ := da_ints fun z hz => h z (List.mem_cons_of_mem _ hz)
    obtain ⟨i, rfl, i0, i1⟩ := h y List.mem_cons_self
    refine ⟨.int i :: ds, by rw [List.length_cons, List.length_cons, l1], fun H => .cons (.int i) (d1 H), fun d hd => ?_⟩
    rcases List.mem_cons.mp hd with rfl | hd
    · exact shi i0 (by omega)
    · exact g1 d hd
theorem mem_cutV {xs : List V} {lo hi : Option Int} {y : V} (h : y ∈ cutV xs lo hi) : y ∈ xs := List.mem_of_mem_drop (List.mem_of_mem_take h)
theorem sh_numbers {ds : List PyData} (h : ∀ d ∈ ds, Sh 2 20 d) (hl : ds.length ≤ 20000) : Sh 12 600000 (.list ds) := (shs_of h hl).lst.mono (by decide) (by decide)
end
end FW
set_option Elab.async false
set_option linter.all false
set_option maxRecDepth 100000
set_option maxHeartbeats 4000000
namespace FW
open PySem PySem.Spec PyProof.Rows L2
open Evl (pss_cut tCut)
open Evl (Ex Ev EvT EvA EvL EvU RC RV fresh_back ev_var ev_c ea_nil ea_cons ev_cb ev_op ev_is ev_andV ev_orV ev_notV et_test et_B et_and et_or et_not et_is s_ret s_when q_when q_asg q_asgL q_asgU rv_I0 rv_eq rv_ne rv_ixT rv_ixL)
section
variable {P : Program} {w : World} {K : PySem.W.Frag} {mg : Str → Option Value} {base : Heap}
def spLaw (K : PySem.W.Frag) : Sp := fun vs H Q _ => ∃ (a : Addr) (ns : List Int), vs = [.ref a] ∧ SqL K H a (ns.map V.int) ∧ ∀ H', Q (.bl true) H'
theorem ok_law (T : TLaw K w.params mg) (hB : ∃ o, base.get? sysModules = some o) : OkG P w K mg base 13 "law" ["script"] (spLaw K) := by
  have G__law_open : Ok P w K mg base CX0 1 "_law_open" ["script"] (spOpen K) := ok_open T.bent.toTPen
  have G__law_take : Ok P w K mg base CX0 2 "_law_take" ["pen", "amount"] spTake := ok_take T.bent.toTPen
  have G__law_one_of : Ok P w K mg base CX0 3 "_law_one_of" ["pen", "some"] spPick := ok_pick T.bent.toTDraw
  have G__law_draw_program : Ok P w K mg base CX0 7 "_law_draw_program" ["pen", "many", "wild"] spDraw := ok_prog T.bent.toTDraw
  have G__law_odd : Ok P w K mg base CX0 4 "_law_odd" ["pen"] spOdd := ok_odd T.bent
  have G__law_bent : Ok P w K mg base CX0 11 "_law_bent" ["pen", "value"] (spBent 5) := ok_bent T.bent 5 (by decide)
  have G__law_one_bent : Ok P w K mg base CX0 5 "_law_one_bent" ["pen", "program"] spOneBent := ok_one_bent T.bent
  have G__law_draw_inputs : Ok P w K mg base CX0 5 "_law_draw_inputs" ["pen", "many"] spInp := ok_inp T.bent
  have G_is_program : Ok P w K mg base CX0 6 "is_program" ["thing"] spProg := ok_is_program T.acc.toTProg
  have G__law_is_program : Ok P w K mg base CX0 4 "_law_is_program" ["value"] spProg := ok_law_prog T.chk
  have G__law_same : Ok P w K mg base CX0 5 "_law_same" ["found", "due"] (spSame 3) := ok_same T.acc 3 (by decide)
  have G_is_inputs : Ok P w K mg base CX0 4 "is_inputs" ["thing"] spInputs := ok_is_inputs T.acc
  have G_accesses : Ok P w K mg base CX0 8 "accesses" ["program"] spAcc := ok_accesses T.acc
  have G__law_accesses : Ok P w K mg base CX0 2 "_law_accesses" ["program"] spAcc := ok_laccesses T.acc
  have G__law_between : Ok P w K mg base CX0 1 "_law_between" ["value", "low", "high"] spWithin := ok_between T.chk
  refine T.d_law.okG sc_law bi_law (fun vs H Q E h => ?_) (fun cdv A outer s H f vs Q E hr hG h => ?_)
  · obtain ⟨a, ns, rfl, _⟩ := h
    rfl
  · obtain ⟨a, ns, rfl, hS, q⟩ := h
    refine ⟨_, (pss_cons (ps_set (i := 1) sc_law.nd rfl (Or.inr rfl) (pe_callO G__law_open (hr.mono (by decide)) (pa_cons (pv 0) pa_nil)))
    (pss_cons (ps_for PassesOwn.never rfl (pi_range1 (by rfl) T.b_range (pa_cons pe_int pa_nil)) (pg_name (i := 2) sc_law.nd rfl (Or.inl rfl)) (pss_cons (ps_set (i := 3) sc_law.nd rfl (Or.inr rfl) (pe_callO G__law_draw_program (hr.mono (by decide)) (pa_cons (pv 1) (pa_cons pe_int (pa_cons pe_int pa_nil)))))
    (pss_cons (ps_asg (pv 3) (pg_tup rfl (pgs_cons (pg_name (i := 4) sc_law.nd rfl (Or.inl rfl)) (pgs_cons (pg_name (i := 5) sc_law.nd rfl (Or.inl rfl)) pgs_nil))))
    (pss_cons (ps_set (i := 6) sc_law.nd rfl (Or.inl rfl) (pe_tup (pa_cons pe_non (pa_cons pe_int (pa_cons (pe_tup (pa_cons (pe_tup (pa_cons pe_str (pa_cons pe_int pa_nil))) pa_nil)) pa_nil)))))
    (pss_cons (ps_set (i := 7) sc_law.nd rfl (Or.inl rfl) (pe_lst (pa_cons (pv 3) (pa_cons (pe_tup (pa_cons (pe_op op_repT (pv 4) pe_int) (pa_cons (pv 5) pa_nil))) (pa_cons (pe_tup (pa_cons (pv 4) (pa_cons (pe_op op_repT (pv 5) pe_int) pa_nil))) (pa_cons (pe_tup (pa_cons (pe_slice sl_tupA (pv 4) po_none (po_some pe_int)) (pa_cons (pv 5) pa_nil))) pa_nil))))))
    (pss_cons (ps_set (i := 7) sc_law.nd rfl (Or.inl rfl) (pe_op op_cat (pv 7) (pe_lst (pa_cons (pe_tup (pa_cons (pe_op op_catA (pe_slice sl_tupA (pv 4) po_none (po_some pe_int)) (pe_tup (pa_cons (pv 6) pa_nil))) (pa_cons (pv 5) pa_nil))) (pa_cons (pe_tup (pa_cons (pv 4) (pa_cons (pe_op op_catA (pe_slice sl_tupA (pv 5) po_none (po_some pe_int)) (pe_tup (pa_cons (pe_tup (pa_cons pe_int (pa_cons (pe_op op_repT (pe_ix ix_tup (pe_ix ix_tup (pv 5) pe_int (fun _ _ => rfl)) pe_int (fun _ _ => rfl)) pe_int) pa_nil))) pa_nil))) pa_nil))) pa_nil)))))
    (pss_cons (ps_set (i := 7) sc_law.nd rfl (Or.inl rfl) (pe_op op_cat (pe_op op_cat (pv 7) (pe_lst (pa_cons (pe_tup (pa_cons (pv 4) (pa_cons (pe_slice sl_tupA (pv 5) po_none (po_some pe_int)) pa_nil))) pa_nil))) (pe_lc (own := [("again", 8)]) rfl sc_law.nd (pi_range1 (by rfl) T.b_range (pa_cons pe_int pa_nil)) (blkOk_by (N := N_law) (sc := defScope s_law) (by decide +kernel)) (fun _ _ _ _ _ => (pg_name (i := 8) sc_law.nd rfl (Or.inl rfl))) (fun _ _ _ _ _ => pts_nil) (fun _ _ _ _ _ => (pe_callO G__law_bent (hr.mono (by decide)) (pa_cons (pv 1) (pa_cons (pv 3) pa_nil)))))))
    (pss_cons (ps_set (i := 7) sc_law.nd rfl (Or.inl rfl) (pe_op op_cat (pv 7) (pe_lc (own := [("again", 8)]) rfl sc_law.nd (pi_range1 (by rfl) T.b_range (pa_cons pe_int pa_nil)) (blkOk_by (N := N_law) (sc := defScope s_law) (by decide +kernel)) (fun _ _ _ _ _ => (pg_name (i := 8) sc_law.nd rfl (Or.inl rfl))) (fun _ _ _ _ _ => pts_nil) (fun _ _ _ _ _ => (pe_callO G__law_one_bent (hr.mono (by decide)) (pa_cons (pv 1) (pa_cons (pv 3) pa_nil)))))))
    (pss_cons (ps_for PassesOwn.never rfl (pi_list (pe_op op_cat (pv 7) (pe_lst (pa_cons pe_non (pa_cons pe_int (pa_cons pe_str (pa_cons pe_dnewK (pa_cons (pe_lst pa_nil) (pa_cons (pe_callTy call_list_of (by rfl) T.b_list (by decide +kernel) (pa_cons (pv 3) pa_nil)) pa_nil))))))))) (pg_name (i := 9) sc_law.nd rfl (Or.inl rfl)) (pss_cons (ps_set (i := 10) sc_law.nd rfl (Or.inl rfl) (pe_callB (call_reprD hG (hu64 hr) hB) (by rfl) T.b_repr (by decide +kernel) (pa_cons (pv 9) pa_nil)))
    (pss_one (ps_if (PW.pt (pw_or (pt_not (pt_val (pe_callO G__law_same (hr.mono (by decide)) (pa_cons (pe_callO G_is_program (hr.mono (by decide)) (pa_cons (pv 9) pa_nil)) (pa_cons (pe_callO G__law_is_program (hr.mono (by decide)) (pa_cons (pv 9) pa_nil)) pa_nil))))) (pw_or1 (pt_cmpR op_ne (pe_callB (call_reprD hG (hu64 hr) hB) (by rfl) T.b_repr (by decide +kernel) (pa_cons (pv 9) pa_nil)) (pv 10) (nomark _))))) (pss_one (ps_ret pe_bl)) pss_nil))))
    (pss_cons (ps_set (i := 11) sc_law.nd rfl (Or.inl rfl) (pe_callO G__law_draw_inputs (hr.mono (by decide)) (pa_cons (pv 1) (pa_cons pe_int pa_nil))))
    (pss_cons (ps_set (i := 7) sc_law.nd rfl (Or.inl rfl) (pe_lst (pa_cons (pv 11) (pa_cons (pe_op op_rep (pv 11) pe_int) (pa_cons (pe_op op_cat (pv 11) (pe_lst (pa_cons (pe_callO G__law_odd (hr.mono (by decide)) (pa_cons (pv 1) pa_nil)) pa_nil))) (pa_cons (pe_callTy call_tuple_of (by rfl) T.b_tuple (by decide +kernel) (pa_cons (pv 11) pa_nil)) (pa_cons pe_non (pa_cons pe_dnewK (pa_cons pe_str (pa_cons (pe_lst (pa_cons pe_bl pa_nil)) (pa_cons (pe_lst (pa_cons pe_int pa_nil)) (pa_cons (pe_lst (pa_cons pe_int pa_nil)) (pa_cons (pe_lst (pa_cons (pe_un un_neg pe_int) pa_nil)) pa_nil)))))))))))))
    (pss_cons (ps_for PassesOwn.never rfl (pi_range1 (by rfl) T.b_range (pa_cons pe_int pa_nil)) (pg_name (i := 8) sc_law.nd rfl (Or.inl rfl)) (pss_cons (ps_set (i := 12) sc_law.nd rfl (Or.inl rfl) (pe_callO G__law_take (hr.mono (by decide)) (pa_cons (pv 1) (pa_cons (pe_op op_add (pe_callB call_len_seq (by rfl) T.b_len (by decide +kernel) (pa_cons (pv 11) pa_nil)) pe_int) pa_nil))))
    (pss_one (ps_expr (pe_bm PySem.F.plainAttrs_list PySem.F.slot_list_append PySem.F.type_list_append mt_append (pv 7) (pa_cons (pe_op op_cat (pe_op op_cat (pe_slice sl_list (pv 11) po_none (po_some (pv 12))) (pe_lst (pa_cons (pe_callO G__law_one_of (hr.mono (by decide)) (pa_cons (pv 1) (pa_cons (pe_lst (pa_cons (pe_callO G__law_odd (hr.mono (by decide)) (pa_cons (pv 1) pa_nil)) (pa_cons pe_bl (pa_cons (pe_un un_neg pe_int) (pa_cons pe_int (pa_cons pe_str pa_nil)))))) pa_nil))) pa_nil))) (pe_slice sl_list (pv 11) (po_some (pv 12)) po_none)) pa_nil))))))
    (pss_cons (ps_for PassesOwn.never rfl (pi_list (pv 7)) (pg_name (i := 9) sc_law.nd rfl (Or.inl rfl)) (pss_cons (ps_par (i := 13) (j := 10) (by rfl) sc_law.nd rfl rfl (by decide) rfl rfl (pa_cons (pe_and (pe_callB call_isi (by rfl) T.b_isinstance (by decide +kernel) (pa_cons (pv 9) (pa_cons (pe_bltn (by rfl) T.b_list (by decide +kernel) (v := .ty "list") rfl) pa_nil))) (pe_one (pe_cmpR op_lt (pe_callB call_len_seq (by rfl) T.b_len (by decide +kernel) (pa_cons (pv 9) pa_nil)) pe_int (nomark _)))) (pa_cons (pe_callB (call_reprD hG (hu64 hr) hB) (by rfl) T.b_repr (by decide +kernel) (pa_cons (pv 9) pa_nil)) pa_nil)) (by rfl))
    (pss_cons (ps_set (i := 13) sc_law.nd rfl (Or.inl rfl) (pe_and (pv 13) (pe_one (pe_cmpR op_notIn_seq pe_bl (pe_lc (own := [("one", 14)]) rfl sc_law.nd (pi_list (pv 9)) (blkOk_by (N := N_law) (sc := defScope s_law) (by decide +kernel)) (fun _ _ _ _ _ => (pg_name (i := 14) sc_law.nd rfl (Or.inl rfl))) (fun _ _ _ _ _ => pts_nil) (fun _ _ _ _ _ => (pe_callO G__law_between (hr.mono (by decide)) (pa_cons (pv 14) (pa_cons pe_int (pa_cons pe_int pa_nil)))))) (by rfl)))))
    (pss_one (ps_if (PW.pt (pw_or (pt_not (pt_val (pe_callO G__law_same (hr.mono (by decide)) (pa_cons (pe_callO G_is_inputs (hr.mono (by decide)) (pa_cons (pv 9) pa_nil)) (pa_cons (pv 13) pa_nil))))) (pw_or1 (pt_cmpR op_ne (pe_callB (call_reprD hG (hu64 hr) hB) (by rfl) T.b_repr (by decide +kernel) (pa_cons (pv 9) pa_nil)) (pv 10) (nomark _))))) (pss_one (ps_ret pe_bl)) pss_nil)))))
    (pss_one (ps_for PassesOwn.never rfl (pi_range1 (by rfl) T.b_range (pa_cons pe_int pa_nil)) (pg_name (i := 8) sc_law.nd rfl (Or.inl rfl)) (pss_cons (ps_set (i := 15) sc_law.nd rfl (Or.inl rfl) (pe_callO G_accesses (hr.mono (by decide)) (pa_cons (pv 3) pa_nil)))
    (pss_cons (ps_if (pt_not (pt_val (pe_callO G__law_same (hr.mono (by decide)) (pa_cons (pv 15) (pa_cons (pe_callO G__law_accesses (hr.mono (by decide)) (pa_cons (pv 3) pa_nil)) pa_nil))))) (pss_one (ps_ret pe_bl)) pss_nil)
    (pss_one (ps_expr (pe_bm PySem.F.plainAttrs_list PySem.F.slot_list_append PySem.F.type_list_append mt_append (pv 15) (pa_cons pe_non pa_nil)))))))))))))))))))))
    (pss_one (ps_ret pe_bl)))), ?_⟩
    refine ⟨_, rfl, a, ns, rfl, hS, fun H1 p s1 np pen => ?_⟩
    show tSeq _ _ _ _ _
    refine Evl.q_forR1 (ta := tCons (tC (.int 4)) tNil) (n := 4) (ea_cons ev_c ea_nil) ⟨by decide, by decide⟩ (fun i σ H' => ∃ (y2 y3 y4 y5 y6 y7 y8 y9 y10 y11 y12 y13 y14 y15 : Option V), σ = [some (.ref a), some (.ref p), y2, y3, y4, y5, y6, y7, y8, y9, y10, y11, y12, y13, y14, y15] ∧ Pen H' p (100000 * i)) (fun H2 x2 => ⟨_, _, _, _, _, _, _, _, _, _, _, _, _, _, rfl, pen.ext x2⟩) ?_ (fun σ' H' _ => q H')
    rintro i σ' H' hi ⟨y2, y3, y4, y5, y6, y7, y8, y9, y10, y11, y12, y13, y14, y15, rfl, pi⟩
    refine ⟨_, rfl, p, _, 6, 9, rfl, pi, by omega, by decide, by decide, by decide, by decide, fun H2 v d c2 dd nl ok => ?_⟩
    obtain ⟨us, fns, rfl, u1, u6, f1, f4, hus, hfs⟩ := prog_parts ok
    have ds2 : Da (offL H2 [p]) v _ := dd.exT (ExT.offL1 c2.pen) nl
    have all2 : AllS H2 [p] := fun s hs => by
      rw [List.mem_singleton] at hs
      subst hs
      exact c2.pen.some
    obtain ⟨ap, xs, rfl, hap, hds, nap⟩ := Da.tupO ds2
    cases hds with
    | @cons v1 r1 _ _ g1 hds =>
    cases hds with
    | @cons v2 r2 _ _ g2 hds =>
    cases hds
    refine ⟨_, rfl, ap, _, rfl, st_h hap, rfl, _, _, rfl, _, _, rfl, rfl, ?_⟩
    dsimp only
    -- unit
    refine q_asgDa (S := [p]) (ed_tup all2 (ed_cons ed_n (ed_cons ed_i (ed_cons (ed_tup all2 (ed_cons (ed_tup all2 (ed_cons ed_s (ed_cons ed_i ed_nil)) (by show 2 ≤ 100000; decide)) ed_nil) (by show 1 ≤ 100000; decide)) ed_nil))) (by show 3 ≤ 100000; decide)) fun vu H3 e3 du => ?_
    have all3 := some_ex all2 e3
    have gu3 := g1.ex (offL_mono e3)
    have gf3 := g2.ex (offL_mono e3)
    have gp3 := ds2.ex (offL_mono e3)
    obtain ⟨sU, sF, sP, nP⟩ := sh_prog ok
    obtain ⟨u0, bs0, hf0, _, _, b01, b08, _⟩ := hfs 0 _ (List.getElem?_eq_getElem (by omega : 0 < fns.length))
    have hf0' : fns[0]? = some (.tuple [.int u0, .tuple bs0]) := by rw [List.getElem?_eq_getElem (by omega : 0 < fns.length), hf0]
    have une : us ≠ [] := fun z => by rw [z] at u1; cases u1
    have fne : fns ≠ [] := fun z => by rw [z] at f1; cases f1
    have b0ne : bs0 ≠ [] := fun z => by rw [z] at b01; cases b01
    -- values
    refine q_asgDl (S := [p]) (dl_lst (ed_cons (ed_var (i := 3) rfl gp3) (ed_cons (ed_tup all3 (ed_cons (ed_rep (K := K) (n := 7) all3 (ed_var (i := 4) rfl gu3) une (by decide) (by decide) (by omega)) (ed_cons (ed_var (i := 5) rfl gf3) ed_nil)) (by show 2 ≤ 100000; decide))
      (ed_cons (ed_tup all3 (ed_cons (ed_var (i := 4) rfl gu3) (ed_cons (ed_rep (K := K) (n := 5) all3 (ed_var (i := 5) rfl gf3) fne (by decide) (by decide) (by omega)) ed_nil)) (by show 2 ≤ 100000; decide))
      (ed_cons (ed_tup all3 (ed_cons (ed_take (K := K) (i := 0) all3 (ed_var (i := 4) rfl gu3) ev_c) (ed_cons (ed_var (i := 5) rfl gf3) ed_nil)) (by show 2 ≤ 100000; decide)) ed_nil)))) (by show 4 ≤ 100000; decide)) fun l4 x4 H4 e4 d4 nl4 => ?_
    have E4 := e4.trans (Ex.new nl4 (o := .lst x4))
    have d4' := d4.ex (offL_mono (same_new nl4 (o := .lst x4)))
    have hl4 : (upd H4 l4 (.lst x4)) l4 = some (.lst x4) := upd_same
    generalize upd H4 l4 (.lst x4) = H5 at E4 d4' hl4 ⊢
    have all5 := some_ex all3 E4
    have gu5 := gu3.ex (offL_mono E4)
    have gf5 := gf3.ex (offL_mono E4)
    have gp5 := gp3.ex (offL_mono E4)
    have du5 := du.ex (offL_mono E4)
    refine q_asgDl (S := [p]) (dl_cat (dw_var rfl hl4 d4') (dw_new all5 (dl_lst (ed_cons (ed_tup all5 (ed_cons (ed_cat (K := K) all5 (ed_take (K := K) (i := 5) all5 (ed_var (i := 4) rfl gu5) ev_c) (ed_tup all5 (ed_cons (ed_var (i := 6) rfl du5) ed_nil) (by show 1 ≤ 100000; decide)) (by rw [List.length_take, List.length_singleton]; omega))
        (ed_cons (ed_var (i := 5) rfl gf5) ed_nil)) (by show 2 ≤ 100000; decide))
      (ed_cons (ed_tup all5 (ed_cons (ed_var (i := 4) rfl gu5) (ed_cons (ed_cat (K := K) all5 (ed_take (K := K) (i := 3) all5 (ed_var (i := 5) rfl gf5) ev_c) (ed_tup all5 (ed_cons (ed_tup all5 (ed_cons ed_i (ed_cons (ed_rep (K := K) (n := 9) all5 (ed_ix (K := K) (k := 1) (ed_ix (K := K) (k := 0) (ed_var (i := 5) rfl gf5) (fun _ _ => ev_c) rfl hf0') (fun _ _ => ev_c) rfl rfl) b0ne (by decide) (by decide) (by omega)) ed_nil)) (by show 2 ≤ 100000; decide)) ed_nil) (by show 1 ≤ 100000; decide)) (by rw [List.length_take, List.length_singleton]; omega)) ed_nil)) (by show 2 ≤ 100000; decide)) ed_nil)) (by show 2 ≤ 100000; decide)))
      (by show 6 ≤ 100000; decide)) fun l6 x6 H6 e6 d6 nl6 => ?_
    have E6 := e6.trans (Ex.new nl6 (o := .lst x6))
    have d6' := d6.ex (offL_mono (same_new nl6 (o := .lst x6)))
    have hl6 : (upd H6 l6 (.lst x6)) l6 = some (.lst x6) := upd_same
    generalize upd H6 l6 (.lst x6) = H7 at E6 d6' hl6 ⊢
    have all7 := some_ex all5 E6
    have gu7 := gu5.ex (offL_mono E6)
    have gf7 := gf5.ex (offL_mono E6)
    have gp7 := gp5.ex (offL_mono E6)
    have c7 := ((c2.more e3).more E4).more E6
    -- bent
    refine (dl_cat (S := [p]) (te := tVar 7) (tb := tLst (tCons (tTup (tCons (tVar 4) (tCons (tSl (rSlA K) (tVar 5) tNoPart (tPart (tC (.int 0)))) tNil))) tNil)) (dw_var rfl hl6 d6') (dw_new all7 (dl_lst (ed_cons (ed_tup all7 (ed_cons (ed_var (i := 4) rfl gu7) (ed_cons (ed_take (K := K) (i := 0) all7 (ed_var (i := 5) rfl gf7) ev_c) ed_nil)) (by show 2 ≤ 100000; decide)) ed_nil) (by show 1 ≤ 100000; decide))) (by show 7 ≤ 100000; decide)) H7 (Ex.refl _) _ fun l8 x8 H8 e8 d8 nl8 => ?_
    have SV := sh_values ok hf0'
    have d8' := d8.ex (offL_mono (same_new nl8 (o := .lst x8)))
    have hl8 : (upd H8 l8 (.lst x8)) l8 = some (.lst x8) := upd_same
    have E8 := e8.trans (Ex.new nl8 (o := .lst x8))
    have l8p : l8 ≠ p := fun z => ne_some (some_ex all7 e8) nl8 (by simp [z])
    generalize upd H8 l8 (.lst x8) = H9 at d8' hl8 E8 ⊢
    change DaAll (offL H9 [p]) x8 (_ ++ _ ++ _) at d8'
    generalize hV : (([.tuple [.tuple us, .tuple fns], .tuple [.tuple (List.replicate 7 us).flatten, .tuple fns], .tuple [.tuple us, .tuple (List.replicate 5 fns).flatten], .tuple [.tuple (us.take 0), .tuple fns]] ++
      [.tuple [.tuple (us.take 5 ++ [unitD]), .tuple fns], .tuple [.tuple us, .tuple (fns.take 3 ++ [.tuple [.int 0, .tuple (List.replicate 9 bs0).flatten]])]] ++ [.tuple [.tuple us, .tuple (fns.take 0)]] : List PyData)) = DV at SV
    have lV : DV.length = 7 := by rw [← hV]; rfl
    replace d8' : DaAll (offL H9 [p]) x8 DV := by rw [← hV]; exact d8'
    have gp9 := gp7.ex (offL_mono E8)
    have gu9 := gu7.ex (offL_mono E8)
    have c9 := c7.more E8
    have lx8 := d8'.len
    refine tlcI ?_
    refine ⟨10, rfl, by decide, by decide, ?_⟩
    refine lcS (c := 24) (n := 10) (fun d => Sh 12 600000 d) c9.pen (by decide) (fun _ => rfl) (fun k H10 D hk cD xD aD Q' q' => ?_) (fun D H10 ys ds cD nD hD hlD dD gD => ?_)
    · exact ⟨_, rfl, _, rfl, p, [p, D], _, .ref ap, _, rfl, by simp, aD, cD.pen, by omega, gp9.ex xD, sP.mono (by decide) (by decide), nP, fun H11 v' d' c3 dv sh => q' v' H11 d' (c3.mono (by omega)) dv (sh.mono (by decide) (by have := sP.bk; omega))⟩
    have hl10 := cD.lst hl8 l8p
    have d10 := d8'.ex (offL_off (p := p) (by simp) cD.ex)
    have gp10 := gp9.ex (offL_off (p := p) (by simp) cD.ex)
    have lys := dD.len
    refine ⟨l8, D, x8, ys, rfl, rfl, hl10, hD, sz_of (by omega), fun l12 nl12 => ?_⟩
    have dA := (d10.app dD).ex (offL_mono (same_new nl12 (o := .lst (x8 ++ ys))))
    have gA : ∀ d ∈ DV ++ ds, Sh 12 600000 d := fun d hd => (List.mem_append.mp hd).elim (SV d) (gD d)
    have lA : (DV ++ ds).length = 17 := by rw [List.length_append]; omega
    have hlA : (upd H10 l12 (.lst (x8 ++ ys))) l12 = some (.lst (x8 ++ ys)) := upd_same
    have cA := (c9.trans cD).new nl12 (o := .lst (x8 ++ ys))
    have gpA := gp10.ex (offL_mono (same_new nl12 (o := .lst (x8 ++ ys))))
    have l12p : l12 ≠ p := cD.pen.ne nl12
    generalize upd H10 l12 (.lst (x8 ++ ys)) = HA at dA hlA cA gpA ⊢
    generalize x8 ++ ys = xA at dA hlA ⊢
    generalize DV ++ ds = DA at dA gA lA
    clear hV d8' SV lV
    dsimp only
    -- one bent
    have lxA := dA.len
    refine ⟨_, rfl, ?_⟩
    refine tlcI ?_
    refine ⟨8, rfl, by decide, by decide, ?_⟩
    refine lcS (c := 10) (n := 8) (fun d => Sh 12 600000 d) cA.pen (by decide) (fun _ => rfl) (fun k H13 D hk cD xD aD Q' q' => ?_) (fun D H13 ys ds cD nD hD hlD dD gD => ?_)
    · exact ⟨_, rfl, _, rfl, p, [p, D], _, .ref ap, _, rfl, by simp, aD, cD.pen, by omega, gpA.ex xD, ok, sP.mono (by decide) (by decide), fun H14 v' d' c3 dv sh => q' v' H14 d' (c3.mono (by omega)) dv (sh.mono (by decide) (by have := sP.bk; omega))⟩
    have hl13 := cD.lst hlA l12p
    have d13 := dA.ex (offL_off (p := p) (by simp) cD.ex)
    have gp13 := gpA.ex (offL_off (p := p) (by simp) cD.ex)
    have lys := dD.len
    refine ⟨l12, D, xA, ys, rfl, rfl, hl13, hD, sz_of (by omega), fun l14 nl14 => ?_⟩
    have dB := (d13.app dD).ex (offL_mono (same_new nl14 (o := .lst (xA ++ ys))))
    have gB : ∀ d ∈ DA ++ ds, Sh 12 600000 d := fun d hd => (List.mem_append.mp hd).elim (gA d) (gD d)
    have lB : (DA ++ ds).length = 25 := by rw [List.length_append]; omega
    have hlB : (upd H13 l14 (.lst (xA ++ ys))) l14 = some (.lst (xA ++ ys)) := upd_same
    have cB := (cA.trans cD).new nl14 (o := .lst (xA ++ ys))
    have gpB := gp13.ex (offL_mono (same_new nl14 (o := .lst (xA ++ ys))))
    generalize upd H13 l14 (.lst (xA ++ ys)) = HB at dB hlB cB gpB ⊢
    generalize xA ++ ys = xB at dB hlB ⊢
    generalize DA ++ ds = DB at dB gB lB
    dsimp only
    have pB : Pen HB p (100000 * i + 50000) := cB.pen.mono (by omega)
    clear cB cA cD dA gA hlA gpA d13 gp13 hl13 dD gD hD
    -- for value in values
    have allB : AllS HB [p] := fun s hs => by
      rw [List.mem_singleton] at hs
      subst hs
      exact pB.some
    have gX : ∀ d ∈ DB ++ [.none, .int 7, .str "a", .dict [], .list [], .list [.tuple us, .tuple fns]], Sh 12 600000 d := fun d hd => by
      simp only [List.mem_append, List.mem_cons, List.not_mem_nil, or_false] at hd
      rcases hd with hd | rfl | rfl | rfl | rfl | rfl | rfl
      · exact gB d hd
      · exact sh_non
      · exact shi (by decide) (by decide)
      · exact ⟨by decide +kernel, by decide +kernel, by decide +kernel, by decide +kernel⟩
      · exact ⟨by decide +kernel, by decide +kernel, by decide +kernel, by decide +kernel⟩
      · exact ⟨by decide +kernel, by decide +kernel, by decide +kernel, by decide +kernel⟩
      · exact (Shs.lst (k := 4) sP.tupI).mono (by decide) (by decide)
    refine for_da (S := [p]) (ds := DB ++ [.none, .int 7, .str "a", .dict [], .list [], .list [.tuple us, .tuple fns]]) (dw_new allB (dl_cat (dw_var rfl hlB dB) (dw_new allB (dl_lst (ed_cons ed_n (ed_cons ed_i (ed_cons ed_s (ed_cons (ed_dic allB) (ed_cons (ed_lst allB ed_nil (by show 0 ≤ 100000; decide)) (ed_cons (ed_listT allB (ed_var (i := 3) rfl gpB)) ed_nil)))))) (by show 6 ≤ 100000; decide))) (by rw [lB]; show 25 + 6 ≤ 100000; decide)))
      (fun σ => ∃ (y9 y10 : Option V), σ = [some (.ref a), some (.ref p), some (.int i), some (.ref ap), some v1, some v2, some vu, some (.ref l14), y8, y9, y10, y11, y12, y13, y14, y15]) ⟨_, _, rfl⟩ (fun H1' e1 x d σ' H' e2 pv md dx => ?_) (fun σ' HC eC pv => ?_)
    · obtain ⟨y9, y10, rfl⟩ := pv
      have rd := (gX d md).rep (by decide) (by decide)
      refine q_asg (ev_repr (ev_var rfl) dx rd) (fun H2' x2 => ?_)
      refine Evl.s_if (b := false) (et_bad (ev_same (ev_isProg (ev_var rfl) (dx.ex x2)) (ev_isProg (ev_var rfl) (dx.ex x2))) rfl (ev_var rfl) (dx.ex x2) rd) (fun z => by cases z) (fun _ H3' x3 => ?_)
      exact ⟨⟨_, _, rfl⟩, (e2.trans x2).trans x3⟩
    obtain ⟨y9, y10, rfl⟩ := pv
    have pC := pB.ext eC
    have gpC := gpB.ex (offL_mono eC)
    clear gX gB dB allB
    -- base
    refine ⟨_, rfl, p, _, 100, rfl, pC, by omega, by decide, by decide, fun HD lb zs cI nlb hlb hzl hzs => ?_⟩
    have hzl : zs.length ≤ 100 := hzl
    have lbp : lb ≠ p := pC.ne nlb
    have gpD := gpC.ex (offL_off (p := p) (by simp) cI.ex)
    -- values
    refine ⟨_, rfl, ?_⟩
    refine ⟨_, rfl, lb, 20, _, rfl, rfl, hlb, by decide, by decide, sz_of (by rw [List.length_map]; show zs.length * 20 ≤ 100000; omega), fun l2 nl2 => ?_⟩
    have zin : ∀ y ∈ zs.map V.int, ∃ i : Int, y = .int i ∧ 0 ≤ i ∧ i ≤ 65535 := fun y hy => by
      obtain ⟨z, hz, rfl⟩ := List.mem_map.mp hy
      exact ⟨z, rfl, hzs z hz⟩
    obtain ⟨dz, lz, daz, gz⟩ := da_ints zin
    obtain ⟨dr, lr, dar, gr⟩ := da_ints (ys := (List.replicate ((20 : Int).toNat) (zs.map V.int)).flatten) (fun y hy => zin y (mem_rep hy))
    rw [List.length_map] at lz
    rw [len_rep, List.length_map] at lr
    have c2' := (PAt.refl cI.pen).new nl2 (o := .lst (List.replicate ((20 : Int).toNat) (zs.map V.int)).flatten)
    have h22 : (upd HD l2 (.lst (List.replicate ((20 : Int).toNat) (zs.map V.int)).flatten)) l2 = some (.lst (List.replicate ((20 : Int).toNat) (zs.map V.int)).flatten) := upd_same
    have l2p : l2 ≠ p := cI.pen.ne nl2
    have hlb2 := same_new nl2 (o := .lst (List.replicate ((20 : Int).toNat) (zs.map V.int)).flatten) _ _ hlb
    have gp2 := gpD.ex (offL_mono (same_new nl2 (o := .lst (List.replicate ((20 : Int).toNat) (zs.map V.int)).flatten)))
    generalize upd HD l2 (.lst (List.replicate ((20 : Int).toNat) (zs.map V.int)).flatten) = HE at c2' h22 hlb2 gp2 ⊢
    have allE : AllS HE [p] := fun s hs => by
      rw [List.mem_singleton] at hs
      subst hs
      exact c2'.pen.some
    refine ⟨_, rfl, _, rfl, p, [p], _, rfl, by simp, allE, c2'.pen, by omega, fun HF vo do' cO dO mO => ?_⟩
    refine ⟨sz_of (by show 1 ≤ 100000; decide), fun l3 nl3 => ?_⟩
    have hlb3 := cO.lst hlb2 lbp
    have h23 := cO.lst h22 l2p
    have gp3' := gp2.ex (offL_off (p := p) (by simp) cO.ex)
    have hlb4 := same_new nl3 (o := .lst [vo]) _ _ hlb3
    refine ⟨lb, l3, _, _, rfl, rfl, hlb4, upd_same, sz_of (by rw [List.length_map]; show zs.length + 1 ≤ 100000; omega), fun l4' nl4' => ?_⟩
    have e34 : Ex HF (upd (upd HF l3 (.lst [vo])) l4' (.lst (zs.map V.int ++ [vo]))) := (same_new nl3 (o := .lst [vo])).trans (same_new nl4' (o := .lst (zs.map V.int ++ [vo])))
    have h44 : (upd (upd HF l3 (.lst [vo])) l4' (.lst (zs.map V.int ++ [vo]))) l4' = some (.lst (zs.map V.int ++ [vo])) := upd_same
    have c5 := cO.more e34
    have n4p : l4' ≠ p := (cO.pen.ext (same_new nl3 (o := .lst [vo]))).ne nl4'
    have dO5 := dO.ex (offL_mono e34)
    have hlb5 := e34 _ _ hlb3
    have h25 := e34 _ _ h23
    have gp5' := gp3'.ex (offL_mono e34)
    generalize upd (upd HF l3 (.lst [vo])) l4' (.lst (zs.map V.int ++ [vo])) = HG at e34 h44 c5 dO5 hlb5 h25 gp5' ⊢
    have allG : AllS HG [p] := fun s hs => by
      rw [List.mem_singleton] at hs
      subst hs
      exact c5.pen.some
    have goI : ∀ d ∈ dz ++ [do'], Sh 2 20 d := fun d hd => by
      rw [List.mem_append, List.mem_singleton] at hd
      rcases hd with hd | rfl
      · exact gz d hd
      · exact odd_sh mO
    refine (ed_cons (ed_tupL allG (ev_var rfl) hlb5 (daz _)) (ed_cons ed_n (ed_cons (ed_dic allG) (ed_cons ed_s (ed_cons (ed_lst allG (ed_cons ed_b ed_nil) (by show 1 ≤ 100000; decide)) (ed_cons (ed_lst allG (ed_cons ed_i ed_nil) (by show 1 ≤ 100000; decide)) (ed_cons (ed_lst allG (ed_cons ed_i ed_nil) (by show 1 ≤ 100000; decide)) (ed_cons (ed_lst allG (ed_cons ed_neg ed_nil) (by show 1 ≤ 100000; decide)) ed_nil))))))) : EvDs [p] _ _ HG _) HG (Ex.refl _) _ fun vs HI eI dI => ?_
    have lvs := dI.len
    have hlb6 := eI _ _ hlb5
    have pI : Pen HI p (100000 * i + 60000) := (c5.pen.ext eI).mono (by omega)
    have gp6 := gp5'.ex (offL_mono eI)
    have dV : DaAll (offL HI [p]) (.ref lb :: .ref l2 :: .ref l4' :: vs) (.list dz :: .list dr :: .list (dz ++ [do']) :: [.tuple dz, .none, .dict [], .str "ab", .list [.bool true], .list [.int 65535], .list [.int 65536], .list [.int (-1)]]) :=
      .cons (.lst (offL_of hlb6 (by simp [lbp])) (daz _)) (.cons (.lst (offL_of (eI _ _ h25) (by simp [l2p])) (dar _)) (.cons (.lst (offL_of (eI _ _ h44) (by simp [n4p])) ((daz _).app (.cons (dO5.ex (offL_mono eI)) .nil))) dI))
    have gV : ∀ d ∈ (.list dz :: .list dr :: .list (dz ++ [do']) :: [.tuple dz, .none, .dict [], .str "ab", .list [.bool true], .list [.int 65535], .list [.int 65536], .list [.int (-1)]] : List PyData), Sh 12 600000 d := fun d hd => by
      simp only [List.mem_cons, List.not_mem_nil, or_false] at hd
      rcases hd with rfl | rfl | rfl | rfl | rfl | rfl | rfl | rfl | rfl | rfl | rfl
      · exact sh_numbers gz (by omega)
      · exact sh_numbers gr (by rw [lr]; show 20 * zs.length ≤ 20000; omega)
      · exact sh_numbers goI (by rw [List.length_append]; show dz.length + 1 ≤ 20000; omega)
      · exact (Sh.tupn (k := 2) (b := 20) (n := 20000) gz (by omega)).mono (by decide) (by decide)
      · exact sh_non
      all_goals exact ⟨by decide +kernel, by decide +kernel, by decide +kernel, by decide +kernel⟩
    refine ⟨sz_of (by show vs.length + 1 + 1 + 1 ≤ 100000; rw [lvs]; show 8 + 1 + 1 + 1 ≤ 100000; decide), fun lv nlv => ?_⟩
    have cV := (PAt.refl pI).new nlv (o := .lst (.ref lb :: .ref l2 :: .ref l4' :: vs))
    have lvp : lv ≠ p := pI.ne nlv
    have hlv : (upd HI lv (.lst (.ref lb :: .ref l2 :: .ref l4' :: vs))) lv = some (.lst (.ref lb :: .ref l2 :: .ref l4' :: vs)) := upd_same
    have dV' := dV.ex (offL_two cV nlv)
    have lbv : lb ≠ lv := ne_of_none hlb6 nlv
    dsimp only
    -- for again in range(3)
    refine Evl.q_forR1 (ta := tCons (tC (.int 3)) tNil) (n := 3) (ea_cons ev_c ea_nil) ⟨by decide, by decide⟩ (fun j σ H' => ∃ (y8 y12 : Option V) (xs : List V) (ds : List PyData), σ = [some (.ref a), some (.ref p), some (.int i), some (.ref ap), some v1, some v2, some vu, some (.ref lv), y8, y9, y10, some (.ref lb), y12, y13, y14, y15] ∧
      PAt p (100000 * i + 60000 + 10 * j) HI H' ∧ H' lv = some (.lst xs) ∧ DaAll (offL H' [p, lv]) xs ds ∧ ds.length ≤ 11 + j ∧ ∀ d ∈ ds, Sh 12 600000 d) (fun H1 x1 => ⟨_, _, _, _, rfl, cV.more x1, x1 _ _ hlv, dV'.ex (offL_mono x1), by show 11 ≤ 11 + 0; decide, gV⟩) ?_ (fun σ' H' hh => ?_)
    · rintro j σ' H' hj ⟨y8, y12, xs, ds, rfl, c, hv, dv, ln, g⟩
      have hb := c.lst hlb6 lbp
      refine ⟨_, rfl, _, rfl, lb, _, rfl, .inl (sl_of hb), _, 1, rfl, rfl, p, _, _, rfl, c.pen, by omega, by rw [List.length_map]; omega, by rw [List.length_map]; omega, fun H1 k s1 p1 k0 k1 => ?_⟩
      have ca := c.take s1 p1
      have hv1 := ((PAt.refl c.pen).take s1 p1).lst hv lvp
      have hb1 := ca.lst hlb6 lbp
      have dv1 := dv.ex (offL_off (p := p) (by simp) ((PAt.refl c.pen).take s1 p1).ex)
      refine ⟨_, rfl, .inl ⟨rfl, _, sl_of hv1⟩, ?_⟩
      refine ⟨_, rfl, _, rfl, _, rfl, lb, _, rfl, sl_of hb1, fun l1 nl1 => ?_⟩
      -- from here on
      have cb := (PAt.refl ca.pen).new nl1 (o := .lst (cutV (zs.map V.int) none (some k)))
      have h11 : (upd H1 l1 (.lst (cutV (zs.map V.int) none (some k)))) l1 = some (.lst (cutV (zs.map V.int) none (some k))) := upd_same
      have l1p : l1 ≠ p := ca.pen.ne nl1
      have l1v : lv ≠ l1 := ne_of_none hv1 nl1
      generalize upd H1 l1 (.lst (cutV (zs.map V.int) none (some k))) = H2' at cb h11 ⊢
      have hv2 := cb.lst hv1 lvp
      have all2' : AllS H2' [p, lv] := fun s hs => by
        simp only [List.mem_cons, List.not_mem_nil, or_false] at hs
        rcases hs with rfl | rfl
        · exact cb.pen.some
        · exact ⟨_, hv2⟩
      refine ⟨_, rfl, _, rfl, p, [p, lv], _, rfl, by simp, all2', cb.pen, by omega, fun H3' vo2 do2 cc dO2 mO2 => ?_⟩
      refine ⟨1, rfl, ?_⟩
      refine ⟨sz_of (by show 5 ≤ 100000; decide), fun l2' nl2' => ?_⟩
      have cd := cc.new nl2' (o := .lst [vo2, .bl true, .int (-1), .int 65536, .str "0"])
      refine ⟨p, l2', _, _, rfl, cd.pen, by omega, off_of upd_same (cc.pen.ne nl2'), (by show 0 < 5; decide), (by show 5 < 1000000; decide), fun H5' x s5 p5 hx => ?_⟩
      have ce := cd.take s5 p5
      have ddO := (dO2.ex (offL_mono (same_new nl2' (o := .lst [vo2, .bl true, .int (-1), .int 65536, .str "0"])))).ex (offL_off (p := p) (by simp) s5)
      have hxx : ∃ d, Da (offL H5' [p, lv]) x d ∧ Sh 2 20 d := by
        simp only [List.mem_cons, List.not_mem_nil, or_false] at hx
        rcases hx with rfl | rfl | rfl | rfl | rfl
        · exact ⟨_, ddO, odd_sh mO2⟩
        · exact ⟨_, .bl true, ⟨by decide +kernel, by decide +kernel, by decide +kernel, by decide +kernel⟩⟩
        · exact ⟨_, .int (-1), ⟨by decide +kernel, by decide +kernel, by decide +kernel, by decide +kernel⟩⟩
        · exact ⟨_, .int 65536, shi (by decide) (by decide)⟩
        · exact ⟨_, .str _, ⟨by decide +kernel, by decide +kernel, by decide +kernel, by decide +kernel⟩⟩
      obtain ⟨dx, hdx, gx⟩ := hxx
      refine ⟨sz_of (by show 1 ≤ 100000; decide), fun l3' nl3' => ?_⟩
      have cf := ce.new nl3' (o := .lst [x])
      have hx3 := hdx.ex (offL_mono (same_new nl3' (o := .lst [x])))
      have h33 : (upd H5' l3' (.lst [x])) l3' = some (.lst [x]) := upd_same
      generalize upd H5' l3' (.lst [x]) = H6' at cf hx3 h33 ⊢
      have h61 := cf.lst h11 l1p
      have cl1 := cutV_length (zs.map V.int) none (some k)
      have cl2 := cutV_length (zs.map V.int) (some k) none
      rw [List.length_map] at cl1 cl2
      refine ⟨l1, l3', _, _, rfl, rfl, h61, h33, sz_of (by show _ + 1 ≤ 100000; omega), fun l4x nl4x => ?_⟩
      have cg := cf.new nl4x (o := .lst (cutV (zs.map V.int) none (some k) ++ [x]))
      have hx4 := hx3.ex (offL_mono (same_new nl4x (o := .lst (cutV (zs.map V.int) none (some k) ++ [x]))))
      have h44' : (upd H6' l4x (.lst (cutV (zs.map V.int) none (some k) ++ [x]))) l4x = some (.lst (cutV (zs.map V.int) none (some k) ++ [x])) := upd_same
      generalize upd H6' l4x (.lst (cutV (zs.map V.int) none (some k) ++ [x])) = H7' at cg hx4 h44' ⊢
      have hb7 := ((ca.trans cb).trans cg).lst hlb6 lbp
      refine ⟨_, rfl, _, rfl, _, rfl, lb, _, rfl, sl_of hb7, fun l5x nl5x => ?_⟩
      have ch := cg.new nl5x (o := .lst (cutV (zs.map V.int) (some k) none))
      have hx5 := hx4.ex (offL_mono (same_new nl5x (o := .lst (cutV (zs.map V.int) (some k) none))))
      have h54 := same_new nl5x (o := .lst (cutV (zs.map V.int) (some k) none)) _ _ h44'
      have h55 : (upd H7' l5x (.lst (cutV (zs.map V.int) (some k) none))) l5x = some (.lst (cutV (zs.map V.int) (some k) none)) := upd_same
      generalize upd H7' l5x (.lst (cutV (zs.map V.int) (some k) none)) = H8' at ch hx5 h54 h55 ⊢
      refine ⟨l4x, l5x, _, _, rfl, rfl, h54, h55, sz_of (by rw [List.length_append]; show _ + 1 + _ ≤ 100000; omega), fun l6x nl6x => ?_⟩
      obtain ⟨da, la, daa, ga⟩ := da_ints (ys := cutV (zs.map V.int) none (some k)) fun y hy => zin y (mem_cutV hy)
      obtain ⟨db, lbb, dab, gb⟩ := da_ints (ys := cutV (zs.map V.int) (some k) none) fun y hy => zin y (mem_cutV hy)
      generalize hN : cutV (zs.map V.int) none (some k) ++ [x] ++ cutV (zs.map V.int) (some k) none = xN
      have dN : DaAll (offL H8' [p, lv]) xN (da ++ [dx] ++ db) := by
        rw [← hN]
        exact ((daa _).app (.cons hx5 .nil)).app (dab _)
      have gN : Sh 12 600000 (.list (da ++ [dx] ++ db)) := sh_numbers (fun d hd => by
        simp only [List.mem_append, List.mem_cons, List.not_mem_nil, or_false] at hd
        rcases hd with (hd | rfl) | hd
        · exact ga d hd
        · exact gx
        · exact gb d hd) (by rw [List.length_append, List.length_append]; show _ + 1 + _ ≤ 20000; omega)
      have ci := ch.new nl6x (o := .lst xN)
      have dN6 := dN.ex (offL_mono (same_new nl6x (o := .lst xN)))
      have h66 : (upd H8' l6x (.lst xN)) l6x = some (.lst xN) := upd_same
      have n6p : l6x ≠ p := ch.pen.ne nl6x
      have n6v : l6x ≠ lv := fun z => by
        have z2 := ch.lst hv2 lvp
        rw [← z, nl6x] at z2
        cases z2
      generalize upd H8' l6x (.lst xN) = H9' at ci dN6 h66 n6v ⊢
      have cX := cb.trans ci
      have hv9 := cX.lst hv1 lvp
      have dv9 := dv1.ex (offL_off (p := p) (by simp) cX.ex)
      have lnx := dv.len
      have eU : Ex (offL H9' [p, lv]) (offL (upd H9' lv (.lst (xs ++ [.ref l6x]))) [p, lv]) := fun b o e => by
        obtain ⟨q1, q2⟩ := offL_some e
        have hb : b ≠ lv := fun z => q1 (by simp [z])
        exact offL_of (by rw [upd_ne hb]; exact q2) q1
      refine ⟨lv, xs, _, rfl, rfl, hv9, sz_lt (by omega), ⟨_, _, xs ++ [.ref l6x], ds ++ [.list (da ++ [dx] ++ db)], rfl, ((ca.trans cX).mono (by omega)).upd pI nlv, upd_same, (dv9.app (.cons (.lst (offL_of h66 (by simp [n6p, n6v])) dN6) .nil)).ex eU, by rw [List.length_append]; show ds.length + 1 ≤ 11 + (j + 1); omega, fun d hd => ?_⟩⟩
      rw [List.mem_append, List.mem_singleton] at hd
      rcases hd with hd | rfl
      · exact g d hd
      · exact gN
    obtain ⟨y8, y12, xs, ds, rfl, c, hv, dv, ln, g⟩ := hh
    have dv := dv.ex offL_one
    have gpF := gp6.ex (offL_off (p := p) (by simp) c.ex)
    have pF : Pen H' p (100000 * i + 70000) := c.pen.mono (by show 100000 * i + 60000 + 10 * 3 ≤ _; omega)
    clear c dV dV' gV
    -- for value in values
    refine for_da (S := [p]) (ds := ds) (dw_var rfl hv dv) (fun σ => ∃ (y9 y10 y13 y14 : Option V), σ = [some (.ref a), some (.ref p), some (.int i), some (.ref ap), some v1, some v2, some vu, some (.ref lv), y8, y9, y10, some (.ref lb), y12, y13, y14, y15]) ⟨_, _, _, _, rfl⟩ (fun H1' e1 x d σ' H2' e2 pv md dx => ?_) (fun σ' HJ eJ pv => ?_)
    · obtain ⟨y9, y10, y13, y14, rfl⟩ := pv
      have rd := (g d md).rep (by decide) (by decide)
      refine q_par (ea_cons (ev_due (K := K) (ev_var rfl) dx) (ea_cons (ev_repr (ev_var rfl) dx rd) ea_nil)) (fun H3' x3 => ?_)
      refine q_asg (ev_due2 (K := K) (dx.ex x3)) (fun H4' x4 => ?_)
      have x34 := x3.trans x4
      refine Evl.s_if (b := false) (et_bad (ev_same (ev_isInp (ev_var rfl) (dx.ex x34)) (ev_var rfl)) rfl (ev_var rfl) (dx.ex x34) rd) (fun z => by cases z) (fun _ H5' x5 => ?_)
      exact ⟨⟨_, _, _, _, rfl⟩, (e2.trans x34).trans x5⟩
    obtain ⟨y9, y10, y13, y14, rfl⟩ := pv
    have pJ := pF.ext eJ
    have gpJ := (gpF.ex (offL_mono eJ)).ex offL_sub
    obtain ⟨cm1, cm2, cm3⟩ := acc_cmp ok
    -- for again in range(2)
    refine Evl.s_forR1 (ta := tCons (tC (.int 2)) tNil) (n := 2) (ea_cons ev_c ea_nil) ⟨by decide, by decide⟩ (fun j σ H' => ∃ (y8 y15 : Option V), σ = [some (.ref a), some (.ref p), some (.int i), some (.ref ap), some v1, some v2, some vu, some (.ref lv), y8, y9, y10, some (.ref lb), y12, y13, y14, y15] ∧ Ex HJ H') (fun H1 x1 => ⟨_, _, rfl, x1⟩) ?_ (fun σ' H' hh => ?_)
    · rintro j σ' H' hj ⟨y8, y15, rfl, xj⟩
      refine ⟨_, rfl, _, _, rfl, gpJ.ex xj, ok, nl, fun lf ys H2' x2 nlf hlf df => ?_⟩
      dsimp only [gName]
      refine q_when (b := false) (et_is (et_not (a := true) (et_B (fun H3' x3 Q' q' => ⟨_, rfl, _, rfl, _, _, rfl, gpJ.ex ((xj.trans x2).trans x3), ok, nl, fun lg zs' H4' x4 nlg hlg dg => ?_⟩))) rfl) (fun z => by cases z) (fun _ H3' x3 => ?_)
      · exact ⟨_, _, _, rfl, .lst (x4 _ _ (x3 _ _ hlf)) ((df.ex x3).ex x4), .lst hlg dg, cm1, cm2, fun H5' x5 => q' H5' (x4.trans x5)⟩
      · have lys := df.len
        refine Evl.s_app (x3 _ _ hlf) (ev_var rfl) ev_c (by omega) fun H4' x4 => ?_
        exact ⟨_, _, rfl, Evl.Ex.mut (((xj.trans x2).trans x3).trans x4) (fresh_back xj nlf)⟩
    obtain ⟨y8, y15, rfl, xj⟩ := hh
    exact ⟨_, _, _, _, _, _, _, _, _, _, _, _, _, _, rfl, (pJ.ext xj).mono (by omega)⟩
end
end FW
set_option Elab.async false
set_option linter.all false
set_option maxRecDepth 100000
set_option maxHeartbeats 4000000
namespace FW
open PySem PySem.Spec PyProof.Rows L2
/-! ### a written dict of words and tuples of words -/
def TupAt (K : PySem.W.Frag) (a : Addr) (ks : List Str) : Prop := ∃ (od : Option Addr) (vs : Array Value) (n : Nat) (sl : Array (Option Value)), K.lookup a = some ⟨.type "tuple", od, .seq vs n, sl⟩ ∧ od = none ∧ vs.size ≤ sizeLine ∧ Vals (ks.map V.str) vs.toList
def EntAt (K : PySem.W.Frag) (e : DictEntry) (f : Str × List Str) : Prop := ∃ t a, e.key = .str f.1 t ∧ e.val = .ref a ∧ TupAt K a f.2
def KFAt (K : PySem.W.Frag) (P : Params) (x : Str) (fm : List (Str × List Str)) : Prop := ∃ (p : Addr) (es : Array DictEntry) (n : Nat), PySem.W.nsIn K mainGlobals x = some (some (.ref p)) ∧ K.lookup p = some ⟨.type "dict", none, .dict es n, #[]⟩ ∧ PySem.W.KeysLit P es.toList ∧ (p == sysModules) = false ∧ Paired (EntAt K) es.toList fm
theorem TupAt.mk {K : PySem.W.Frag} {a : Addr} {ks : List Str} {od : Option Addr} {vs : Array Value} {n : Nat} {sl : Array (Option Value)} (l : K.lookup a = some ⟨.type "tuple", od, .seq vs n, sl⟩) (d : od = none) (s : vs.size ≤ sizeLine) (v : Vals (ks.map V.str) vs.toList) : TupAt K a ks :=
  ⟨od, vs, n, sl, l, d, s, v⟩
theorem EntAt.mk {K : PySem.W.Frag} {e : DictEntry} {f : Str × List Str} {t : Tok} {a : Addr} (k : e.key = .str f.1 t) (v : e.val = .ref a) (h : TupAt K a f.2) : EntAt K e f := ⟨t, a, k, v, h⟩
theorem KFAt.mk {K : PySem.W.Frag} {P : Params} {x : Str} {fm : List (Str × List Str)} {p : Addr} {es : Array DictEntry} {n : Nat} (a : PySem.W.nsIn K mainGlobals x = some (some (.ref p))) (l : K.lookup p = some ⟨.type "dict", none, .dict es n, #[]⟩) (k : PySem.W.KeysLit P es.toList)
    (s : (p == sysModules) = false) (e : Paired (EntAt K) es.toList fm) : KFAt K P x fm := ⟨p, es, n, a, l, k, s, e⟩
theorem pairs_of {K : PySem.W.Frag} {es : List DictEntry} {fm : List (Str × List Str)} (h : Paired (EntAt K) es fm) : ∃ kvs : List (Str × V), Paired (fun (e : DictEntry) (kv : Str × V) => (∃ t, e.key = .str kv.1 t) ∧ RelV kv.2 e.val) es kvs ∧
    Paired (fun (kv : Str × V) (e : Str × List Str) => kv.1 = e.1 ∧ ∃ a, kv.2 = .ref a ∧ ∀ H, SqT K H a (e.2.map V.str)) kvs fm := by
  induction h with
  | nil => exact ⟨[], .nil, .nil⟩
  | @cons e f es fm h _ ih =>
    obtain ⟨kvs, h1, h2⟩ := ih
    obtain ⟨t, a, hk, hv, od, vs, n, sl, l, d, s, v⟩ := h
    subst d
    exact ⟨(f.1, .ref a) :: kvs, .cons ⟨⟨t, hk⟩, hv⟩ h1, .cons ⟨rfl, a, rfl, fun H => .inr ⟨_, vs, n, l, rfl, rfl, s, v⟩⟩ h2⟩
theorem KFAt.kf {K : PySem.W.Frag} {P : Params} {mg : Str → Option Value} {h : Heap} {x : Str} {fm : List (Str × List Str)} (D : KFAt K P x fm) (X : K.In h) (G : h.Ns mainGlobals mg) : KForms K P mg x fm := by
  obtain ⟨p, es, n, a, l, k, s, e⟩ := D
  obtain ⟨kvs, h1, h2⟩ := pairs_of e
  exact ⟨p, kvs, PySem.W.mg_of X G a, ⟨es, n, l, k, s, h1⟩, h2⟩
def KTAt (K : PySem.W.Frag) (x : Str) (ws : List Str) : Prop := ∃ a, PySem.W.nsIn K mainGlobals x = some (some (.ref a)) ∧ TupAt K a ws
theorem KTAt.mk {K : PySem.W.Frag} {x : Str} {a : Addr} {ks : List Str} {od : Option Addr} {vs : Array Value} {n : Nat} {sl : Array (Option Value)} (g : PySem.W.nsIn K mainGlobals x = some (some (.ref a))) (l : K.lookup a = some ⟨.type "tuple", od, .seq vs n, sl⟩) (d : od = none) (s : vs.size ≤ sizeLine) (v : Vals (ks.map V.str) vs.toList) : KTAt K x ks :=
  ⟨a, g, od, vs, n, sl, l, d, s, v⟩
theorem KTAt.kt {K : PySem.W.Frag} {mg : Str → Option Value} {h : Heap} {x : Str} {ws : List Str} (D : KTAt K x ws) (X : K.In h) (G : h.Ns mainGlobals mg) : KTup K mg x ws := by
  obtain ⟨a, g, od, vs, n, sl, l, d, s, v⟩ := D
  subst d
  exact ⟨a, PySem.W.mg_of X G g, fun H => .inr ⟨_, vs, n, l, rfl, rfl, s, v⟩⟩
def SmAt (K : PySem.W.Frag) : Prop := ∃ o, K.lookup sysModules = some o
theorem SmAt.ne {K : PySem.W.Frag} (h : SmAt K) : K.lookup sysModules ≠ none := fun z => by
  obtain ⟨o, e⟩ := h
  rw [z] at e
  cases e
end FW
set_option Elab.async false
set_option linter.all false
set_option maxRecDepth 100000
set_option maxHeartbeats 4000000
namespace FW
open PySem PySem.Spec PyProof.Rows L2
section
theorem const_of {K : PySem.W.Frag} {h : Heap} {mg : Str → Option Value} {x : Str} {i : Int} (X : K.In h) (G : h.Ns mainGlobals mg) (c : ∃ t, PySem.W.nsIn K mainGlobals x = some (some (.int i t))) : ∃ t, mg x = some (.int i t) := by
  obtain ⟨t, c⟩ := c
  exact ⟨t, PySem.W.mg_of X G c⟩
theorem all_mk {P : Program} {w : World} {K : PySem.W.Frag} {h : Heap} {mg : Str → Option Value} {fa : Addr} (X : K.In h) (G : h.Ns mainGlobals mg) (hfa : mg "law" = some (.ref fa))
    (d_pis_integer : DfAt K "is_integer" s_is_integer)
    (d_pis_within : DfAt K "is_within" s_is_within)
    (d_pis_index : DfAt K "is_index" s_is_index)
    (d_pis_tuple : DfAt K "is_tuple" s_is_tuple)
    (d_pkinds : DfAt K "_kinds" s__kinds)
    (d_pshared_limits : DfAt K "_shared_limits" s__shared_limits)
    (d_pis_instruction : DfAt K "_is_instruction" s__is_instruction)
    (d_pis_initializer : DfAt K "_is_initializer" s__is_initializer)
    (d_pis_code : DfAt K "_is_code" s__is_code)
    (d_pis_unit : DfAt K "_is_unit" s__is_unit)
    (d_pare_units : DfAt K "_are_units" s__are_units)
    (d_pare_functions : DfAt K "_are_functions" s__are_functions)
    (d_pis_program : DfAt K "is_program" s_is_program)
    (d_ais_number : DfAt K "is_number" s_is_number)
    (d_ais_inputs : DfAt K "is_inputs" s_is_inputs)
    (d_aneed_program : DfAt K "need_program" s_need_program)
    (d_aaccesses : DfAt K "accesses" s_accesses)
    (d_aspots : DfAt K "_spots_where" s__spots_where)
    (d_abodies : DfAt K "_bodies" s__bodies)
    (d_abody : DfAt K "_law_body" s__law_body)
    (d_aunit_of : DfAt K "_law_unit_of" s__law_unit_of)
    (d_alaccesses : DfAt K "_law_accesses" s__law_accesses)
    (d_asame : DfAt K "_law_same" s__law_same)
    (d_cbetween : DfAt K "_law_between" s__law_between)
    (d_cslot : DfAt K "_law_is_slot" s__law_is_slot)
    (d_cfield : DfAt K "_law_is_field" s__law_is_field)
    (d_cone : DfAt K "_law_is_one" s__law_is_one)
    (d_caunits : DfAt K "_law_are_units" s__law_are_units)
    (d_cafuns : DfAt K "_law_are_functions" s__law_are_functions)
    (d_caprog : DfAt K "_law_is_program" s__law_is_program)
    (d_nopen : DfAt K "_law_open" s__law_open)
    (d_nspread : DfAt K "_law_spread" s__law_spread)
    (d_ntake : DfAt K "_law_take" s__law_take)
    (d_wpick : DfAt K "_law_one_of" s__law_one_of)
    (d_wnumber : DfAt K "_law_number" s__law_number)
    (d_wplain : DfAt K "_law_plain_one" s__law_plain_one)
    (d_wany : DfAt K "_law_any_one" s__law_any_one)
    (d_wprog : DfAt K "_law_draw_program" s__law_draw_program)
    (d_bodd : DfAt K "_law_odd" s__law_odd)
    (d_bbent : DfAt K "_law_bent" s__law_bent)
    (d_bone_bent : DfAt K "_law_one_bent" s__law_one_bent)
    (d_binputs : DfAt K "_law_draw_inputs" s__law_draw_inputs)
    (d_law : DfAt K "law" s_law)
    (b_isinstance : PySem.W.nsIn K mainGlobals "isinstance" = some none)
    (b_int : PySem.W.nsIn K mainGlobals "int" = some none)
    (b_bool : PySem.W.nsIn K mainGlobals "bool" = some none)
    (b_str : PySem.W.nsIn K mainGlobals "str" = some none)
    (b_tuple : PySem.W.nsIn K mainGlobals "tuple" = some none)
    (b_len : PySem.W.nsIn K mainGlobals "len" = some none)
    (b_enumerate : PySem.W.nsIn K mainGlobals "enumerate" = some none)
    (b_all : PySem.W.nsIn K mainGlobals "all" = some none)
    (b_range : PySem.W.nsIn K mainGlobals "range" = some none)
    (b_list : PySem.W.nsIn K mainGlobals "list" = some none)
    (b_zip : PySem.W.nsIn K mainGlobals "zip" = some none)
    (b_min : PySem.W.nsIn K mainGlobals "min" = some none)
    (b_repr : PySem.W.nsIn K mainGlobals "repr" = some none)
    (c_MOST_NUMBER : ∃ t, PySem.W.nsIn K mainGlobals "MOST_NUMBER" = some (some (.int 65535 t)))
    (c_MOST_UNITS : ∃ t, PySem.W.nsIn K mainGlobals "MOST_UNITS" = some (some (.int 6 t)))
    (c_MOST_FIELDS : ∃ t, PySem.W.nsIn K mainGlobals "MOST_FIELDS" = some (some (.int 3 t)))
    (c_MOST_FUNCTIONS : ∃ t, PySem.W.nsIn K mainGlobals "MOST_FUNCTIONS" = some (some (.int 4 t)))
    (c_MOST_IN_INITIALIZER : ∃ t, PySem.W.nsIn K mainGlobals "MOST_IN_INITIALIZER" = some (some (.int 6 t)))
    (c_MOST_IN_FUNCTION : ∃ t, PySem.W.nsIn K mainGlobals "MOST_IN_FUNCTION" = some (some (.int 8 t)))
    (c_LAST_SLOT : ∃ t, PySem.W.nsIn K mainGlobals "LAST_SLOT" = some (some (.int 2 t)))
    (c_MOST_INPUTS : ∃ t, PySem.W.nsIn K mainGlobals "MOST_INPUTS" = some (some (.int 100 t)))
    (f_I : KFAt K w.params "FORMS" formsI)
    (f_F : KFAt K w.params "FORMS_IN_FUNCTIONS" formsF)
    (k_CH : KTAt K "CHECKED_WORDS" ["read", "write", "call"]) :
    ∃ fd : FuncData, (∀ (s : Shared) (v : Value), BindsTo s fd ⟨[v], []⟩ [("script", v)]) ∧ ∀ base : Heap, K.In base → base.Ns mainGlobals mg → (∃ o, base.get? sysModules = some o) → FnG P w K mg base 13 fa fd ["script"] (spLaw K) := by
  have TP : TProg K w.params mg := { b_isinstance := PySem.W.mg_none_of X G b_isinstance, b_int := PySem.W.mg_none_of X G b_int, b_bool := PySem.W.mg_none_of X G b_bool, b_str := PySem.W.mg_none_of X G b_str, b_tuple := PySem.W.mg_none_of X G b_tuple, b_len := PySem.W.mg_none_of X G b_len, b_enumerate := PySem.W.mg_none_of X G b_enumerate, b_all := PySem.W.mg_none_of X G b_all, c_MOST_NUMBER := const_of X G c_MOST_NUMBER, c_MOST_UNITS := const_of X G c_MOST_UNITS, c_MOST_FIELDS := const_of X G c_MOST_FIELDS, c_MOST_FUNCTIONS := const_of X G c_MOST_FUNCTIONS, c_MOST_IN_INITIALIZER := const_of X G c_MOST_IN_INITIALIZER, c_MOST_IN_FUNCTION := const_of X G c_MOST_IN_FUNCTION, c_LAST_SLOT := const_of X G c_LAST_SLOT, f_I := f_I.kf X G, f_F := f_F.kf X G, d_is_integer := d_pis_integer.df X G, d_is_within := d_pis_within.df X G, d_is_index := d_pis_index.df X G, d_is_tuple := d_pis_tuple.df X G, d_kinds := d_pkinds.df X G, d_shared_limits := d_pshared_limits.df X G, d_is_instruction := d_pis_instruction.df X G, d_is_initializer := d_pis_initializer.df X G, d_is_code := d_pis_code.df X G, d_is_unit := d_pis_unit.df X G, d_are_units := d_pare_units.df X G, d_are_functions := d_pare_functions.df X G, d_is_program := d_pis_program.df X G }
  have TA : TAcc K w.params mg := { TP with b_range := PySem.W.mg_none_of X G b_range, b_list := PySem.W.mg_none_of X G b_list, b_zip := PySem.W.mg_none_of X G b_zip, c_MOST_INPUTS := const_of X G c_MOST_INPUTS, k_CHECKED := k_CH.kt X G, d_is_number := d_ais_number.df X G, d_is_inputs := d_ais_inputs.df X G, d_need_program := d_aneed_program.df X G, d_accesses := d_aaccesses.df X G, d_spots := d_aspots.df X G, d_bodies := d_abodies.df X G, d_body := d_abody.df X G, d_unit_of := d_aunit_of.df X G, d_laccesses := d_alaccesses.df X G, d_same := d_asame.df X G }
  have TC : TChk K w.params mg := { TP with d_between := d_cbetween.df X G, d_slot := d_cslot.df X G, d_field := d_cfield.df X G, d_one := d_cone.df X G, d_aunits := d_caunits.df X G, d_afuns := d_cafuns.df X G, d_aprog := d_caprog.df X G }
  have TN : TPen K mg := { b_list := PySem.W.mg_none_of X G b_list, b_enumerate := PySem.W.mg_none_of X G b_enumerate, b_int := PySem.W.mg_none_of X G b_int, b_len := PySem.W.mg_none_of X G b_len, d_open := d_nopen.df X G, d_spread := d_nspread.df X G, d_take := d_ntake.df X G }
  have TD : TDraw K mg := { TN with b_range := PySem.W.mg_none_of X G b_range, b_tuple := PySem.W.mg_none_of X G b_tuple, b_min := PySem.W.mg_none_of X G b_min, d_pick := d_wpick.df X G, d_number := d_wnumber.df X G, d_plain := d_wplain.df X G, d_any := d_wany.df X G, d_prog := d_wprog.df X G }
  have TB : TBent K mg := { TD with b_isinstance := PySem.W.mg_none_of X G b_isinstance, d_odd := d_bodd.df X G, d_bent := d_bbent.df X G, d_one_bent := d_bone_bent.df X G, d_inputs := d_binputs.df X G }
  have T : TLaw K w.params mg := { b_repr := PySem.W.mg_none_of X G b_repr, b_range := PySem.W.mg_none_of X G b_range, b_list := PySem.W.mg_none_of X G b_list, b_tuple := PySem.W.mg_none_of X G b_tuple, b_len := PySem.W.mg_none_of X G b_len, b_isinstance := PySem.W.mg_none_of X G b_isinstance, b_int := PySem.W.mg_none_of X G b_int, bent := TB, chk := TC, acc := TA, d_law := d_law.df X G }
  exact end_lawS (d_law.df X G) bi_law hfa fun base _ _ hB => ok_law T hB
end
end FW
open PySem PySem.W PyProof.Rows
set_option maxRecDepth 100000 in
set_option maxHeartbeats 0 in
theorem PySem.Challenge.cw_firstwake_k01_programs_recognized_holds : PySem.Challenge.rw_firstwake_k01_programs_recognized.Holds := by
  w_on; o_law; k_head; (case hw => w_witness2)
  k_fill
  refine FW.walk_ofS (l := PySem.Challenge.rw_firstwake_k01_programs_recognized) (n := 63) (k := 13) (x := "script") (sp := fun w => FW.spLaw _) (by decide +kernel) rfl (by decide) rfl ⟨rfl, by decide, by decide⟩ (fun w h Y => PySem.W.kIn_of Y) ?F (fun _ _ a ns _ _ hS => ⟨a, ns, rfl, hS, fun _ => rfl⟩)
  case F =>
    intro w mg fa h KX G hmg
    refine' FW.all_mk KX G hmg ?d_pis_integer ?d_pis_within ?d_pis_index ?d_pis_tuple ?d_pkinds ?d_pshared_limits ?d_pis_instruction ?d_pis_initializer ?d_pis_code ?d_pis_unit ?d_pare_units ?d_pare_functions ?d_pis_program ?d_ais_number ?d_ais_inputs ?d_aneed_program ?d_aaccesses ?d_aspots ?d_abodies ?d_abody ?d_aunit_of ?d_alaccesses ?d_asame ?d_cbetween ?d_cslot ?d_cfield ?d_cone ?d_caunits ?d_cafuns ?d_caprog ?d_nopen ?d_nspread ?d_ntake ?d_wpick ?d_wnumber ?d_wplain ?d_wany ?d_wprog ?d_bodd ?d_bbent ?d_bone_bent ?d_binputs ?d_law ?b_isinstance ?b_int ?b_bool ?b_str ?b_tuple ?b_len ?b_enumerate ?b_all ?b_range ?b_list ?b_zip ?b_min ?b_repr ?c_MOST_NUMBER ?c_MOST_UNITS ?c_MOST_FIELDS ?c_MOST_FUNCTIONS ?c_MOST_IN_INITIALIZER ?c_MOST_IN_FUNCTION ?c_LAST_SLOT ?c_MOST_INPUTS ?f_I ?f_F ?k_CH
    case d_pis_integer => refine' FW.DfAt.mk ?a ?l ?c ?k; (case a => k_is); (case l => k_is); (case c => k_is); (case k => k_is)
    case d_pis_within => refine' FW.DfAt.mk ?a ?l ?c ?k; (case a => k_is); (case l => k_is); (case c => k_is); (case k => k_is)
    case d_pis_index => refine' FW.DfAt.mk ?a ?l ?c ?k; (case a => k_is); (case l => k_is); (case c => k_is); (case k => k_is)
    case d_pis_tuple => refine' FW.DfAt.mk ?a ?l ?c ?k; (case a => k_is); (case l => k_is); (case c => k_is); (case k => k_is)
    case d_pkinds => refine' FW.DfAt.mk ?a ?l ?c ?k; (case a => k_is); (case l => k_is); (case c => k_is); (case k => k_is)
    case d_pshared_limits => refine' FW.DfAt.mk ?a ?l ?c ?k; (case a => k_is); (case l => k_is); (case c => k_is); (case k => k_is)
    case d_pis_instruction => refine' FW.DfAt.mk ?a ?l ?c ?k; (case a => k_is); (case l => k_is); (case c => k_is); (case k => k_is)
    case d_pis_initializer => refine' FW.DfAt.mk ?a ?l ?c ?k; (case a => k_is); (case l => k_is); (case c => k_is); (case k => k_is)
    case d_pis_code => refine' FW.DfAt.mk ?a ?l ?c ?k; (case a => k_is); (case l => k_is); (case c => k_is); (case k => k_is)
    case d_pis_unit => refine' FW.DfAt.mk ?a ?l ?c ?k; (case a => k_is); (case l => k_is); (case c => k_is); (case k => k_is)
    case d_pare_units => refine' FW.DfAt.mk ?a ?l ?c ?k; (case a => k_is); (case l => k_is); (case c => k_is); (case k => k_is)
    case d_pare_functions => refine' FW.DfAt.mk ?a ?l ?c ?k; (case a => k_is); (case l => k_is); (case c => k_is); (case k => k_is)
    case d_pis_program => refine' FW.DfAt.mk ?a ?l ?c ?k; (case a => k_is); (case l => k_is); (case c => k_is); (case k => k_is)
    case d_ais_number => refine' FW.DfAt.mk ?a ?l ?c ?k; (case a => k_is); (case l => k_is); (case c => k_is); (case k => k_is)
    case d_ais_inputs => refine' FW.DfAt.mk ?a ?l ?c ?k; (case a => k_is); (case l => k_is); (case c => k_is); (case k => k_is)
    case d_aneed_program => refine' FW.DfAt.mk ?a ?l ?c ?k; (case a => k_is); (case l => k_is); (case c => k_is); (case k => k_is)
    case d_aaccesses => refine' FW.DfAt.mk ?a ?l ?c ?k; (case a => k_is); (case l => k_is); (case c => k_is); (case k => k_is)
    case d_aspots => refine' FW.DfAt.mk ?a ?l ?c ?k; (case a => k_is); (case l => k_is); (case c => k_is); (case k => k_is)
    case d_abodies => refine' FW.DfAt.mk ?a ?l ?c ?k; (case a => k_is); (case l => k_is); (case c => k_is); (case k => k_is)
    case d_abody => refine' FW.DfAt.mk ?a ?l ?c ?k; (case a => k_is); (case l => k_is); (case c => k_is); (case k => k_is)
    case d_aunit_of => refine' FW.DfAt.mk ?a ?l ?c ?k; (case a => k_is); (case l => k_is); (case c => k_is); (case k => k_is)
    case d_alaccesses => refine' FW.DfAt.mk ?a ?l ?c ?k; (case a => k_is); (case l => k_is); (case c => k_is); (case k => k_is)
    case d_asame => refine' FW.DfAt.mk ?a ?l ?c ?k; (case a => k_is); (case l => k_is); (case c => k_is); (case k => k_is)
    case d_cbetween => refine' FW.DfAt.mk ?a ?l ?c ?k; (case a => k_is); (case l => k_is); (case c => k_is); (case k => k_is)
    case d_cslot => refine' FW.DfAt.mk ?a ?l ?c ?k; (case a => k_is); (case l => k_is); (case c => k_is); (case k => k_is)
    case d_cfield => refine' FW.DfAt.mk ?a ?l ?c ?k; (case a => k_is); (case l => k_is); (case c => k_is); (case k => k_is)
    case d_cone => refine' FW.DfAt.mk ?a ?l ?c ?k; (case a => k_is); (case l => k_is); (case c => k_is); (case k => k_is)
    case d_caunits => refine' FW.DfAt.mk ?a ?l ?c ?k; (case a => k_is); (case l => k_is); (case c => k_is); (case k => k_is)
    case d_cafuns => refine' FW.DfAt.mk ?a ?l ?c ?k; (case a => k_is); (case l => k_is); (case c => k_is); (case k => k_is)
    case d_caprog => refine' FW.DfAt.mk ?a ?l ?c ?k; (case a => k_is); (case l => k_is); (case c => k_is); (case k => k_is)
    case d_nopen => refine' FW.DfAt.mk ?a ?l ?c ?k; (case a => k_is); (case l => k_is); (case c => k_is); (case k => k_is)
    case d_nspread => refine' FW.DfAt.mk ?a ?l ?c ?k; (case a => k_is); (case l => k_is); (case c => k_is); (case k => k_is)
    case d_ntake => refine' FW.DfAt.mk ?a ?l ?c ?k; (case a => k_is); (case l => k_is); (case c => k_is); (case k => k_is)
    case d_wpick => refine' FW.DfAt.mk ?a ?l ?c ?k; (case a => k_is); (case l => k_is); (case c => k_is); (case k => k_is)
    case d_wnumber => refine' FW.DfAt.mk ?a ?l ?c ?k; (case a => k_is); (case l => k_is); (case c => k_is); (case k => k_is)
    case d_wplain => refine' FW.DfAt.mk ?a ?l ?c ?k; (case a => k_is); (case l => k_is); (case c => k_is); (case k => k_is)
    case d_wany => refine' FW.DfAt.mk ?a ?l ?c ?k; (case a => k_is); (case l => k_is); (case c => k_is); (case k => k_is)
    case d_wprog => refine' FW.DfAt.mk ?a ?l ?c ?k; (case a => k_is); (case l => k_is); (case c => k_is); (case k => k_is)
    case d_bodd => refine' FW.DfAt.mk ?a ?l ?c ?k; (case a => k_is); (case l => k_is); (case c => k_is); (case k => k_is)
    case d_bbent => refine' FW.DfAt.mk ?a ?l ?c ?k; (case a => k_is); (case l => k_is); (case c => k_is); (case k => k_is)
    case d_bone_bent => refine' FW.DfAt.mk ?a ?l ?c ?k; (case a => k_is); (case l => k_is); (case c => k_is); (case k => k_is)
    case d_binputs => refine' FW.DfAt.mk ?a ?l ?c ?k; (case a => k_is); (case l => k_is); (case c => k_is); (case k => k_is)
    case d_law => refine' FW.DfAt.mk ?a ?l ?c ?k; (case a => k_is); (case l => k_is); (case c => k_is); (case k => k_is)
    case b_isinstance => k_is
    case b_int => k_is
    case b_bool => k_is
    case b_str => k_is
    case b_tuple => k_is
    case b_len => k_is
    case b_enumerate => k_is
    case b_all => k_is
    case b_range => k_is
    case b_list => k_is
    case b_zip => k_is
    case b_min => k_is
    case b_repr => k_is
    case c_MOST_NUMBER => refine' ⟨_, ?z⟩; (case z => (refine' Eq.trans ?y ?x; (case y => k_is); (case x => exact rfl)))
    case c_MOST_UNITS => refine' ⟨_, ?z⟩; (case z => (refine' Eq.trans ?y ?x; (case y => k_is); (case x => exact rfl)))
    case c_MOST_FIELDS => refine' ⟨_, ?z⟩; (case z => (refine' Eq.trans ?y ?x; (case y => k_is); (case x => exact rfl)))
    case c_MOST_FUNCTIONS => refine' ⟨_, ?z⟩; (case z => (refine' Eq.trans ?y ?x; (case y => k_is); (case x => exact rfl)))
    case c_MOST_IN_INITIALIZER => refine' ⟨_, ?z⟩; (case z => (refine' Eq.trans ?y ?x; (case y => k_is); (case x => exact rfl)))
    case c_MOST_IN_FUNCTION => refine' ⟨_, ?z⟩; (case z => (refine' Eq.trans ?y ?x; (case y => k_is); (case x => exact rfl)))
    case c_LAST_SLOT => refine' ⟨_, ?z⟩; (case z => (refine' Eq.trans ?y ?x; (case y => k_is); (case x => exact rfl)))
    case c_MOST_INPUTS => refine' ⟨_, ?z⟩; (case z => (refine' Eq.trans ?y ?x; (case y => k_is); (case x => exact rfl)))
    case f_I =>
      refine' FW.KFAt.mk ?a ?l ?k ?s ?e; (case a => k_is); (case l => k_is); (case k => k_keys); (case s => first | rfl | decide)
      case e =>
        refine' (.cons ?e0 (.cons ?e1 (.cons ?e2 (.cons ?e3 (.cons ?e4 (.cons ?e5 .nil))))))
        case e0 => refine' FW.EntAt.mk rfl rfl (FW.TupAt.mk ?l ?d ?s ?v); (case l => k_is); (case d => rfl); (case s => decide); (case v => repeat (first | exact .nil | refine' .cons ⟨_, rfl⟩ ?_))
        case e1 => refine' FW.EntAt.mk rfl rfl (FW.TupAt.mk ?l ?d ?s ?v); (case l => k_is); (case d => rfl); (case s => decide); (case v => repeat (first | exact .nil | refine' .cons ⟨_, rfl⟩ ?_))
        case e2 => refine' FW.EntAt.mk rfl rfl (FW.TupAt.mk ?l ?d ?s ?v); (case l => k_is); (case d => rfl); (case s => decide); (case v => repeat (first | exact .nil | refine' .cons ⟨_, rfl⟩ ?_))
        case e3 => refine' FW.EntAt.mk rfl rfl (FW.TupAt.mk ?l ?d ?s ?v); (case l => k_is); (case d => rfl); (case s => decide); (case v => repeat (first | exact .nil | refine' .cons ⟨_, rfl⟩ ?_))
        case e4 => refine' FW.EntAt.mk rfl rfl (FW.TupAt.mk ?l ?d ?s ?v); (case l => k_is); (case d => rfl); (case s => decide); (case v => repeat (first | exact .nil | refine' .cons ⟨_, rfl⟩ ?_))
        case e5 => refine' FW.EntAt.mk rfl rfl (FW.TupAt.mk ?l ?d ?s ?v); (case l => k_is); (case d => rfl); (case s => decide); (case v => repeat (first | exact .nil | refine' .cons ⟨_, rfl⟩ ?_))
    case f_F =>
      refine' FW.KFAt.mk ?a ?l ?k ?s ?e; (case a => k_is); (case l => k_is); (case k => k_keys); (case s => first | rfl | decide)
      case e =>
        refine' (.cons ?e0 (.cons ?e1 (.cons ?e2 (.cons ?e3 (.cons ?e4 .nil)))))
        case e0 => refine' FW.EntAt.mk rfl rfl (FW.TupAt.mk ?l ?d ?s ?v); (case l => k_is); (case d => rfl); (case s => decide); (case v => repeat (first | exact .nil | refine' .cons ⟨_, rfl⟩ ?_))
        case e1 => refine' FW.EntAt.mk rfl rfl (FW.TupAt.mk ?l ?d ?s ?v); (case l => k_is); (case d => rfl); (case s => decide); (case v => repeat (first | exact .nil | refine' .cons ⟨_, rfl⟩ ?_))
        case e2 => refine' FW.EntAt.mk rfl rfl (FW.TupAt.mk ?l ?d ?s ?v); (case l => k_is); (case d => rfl); (case s => decide); (case v => repeat (first | exact .nil | refine' .cons ⟨_, rfl⟩ ?_))
        case e3 => refine' FW.EntAt.mk rfl rfl (FW.TupAt.mk ?l ?d ?s ?v); (case l => k_is); (case d => rfl); (case s => decide); (case v => repeat (first | exact .nil | refine' .cons ⟨_, rfl⟩ ?_))
        case e4 => refine' FW.EntAt.mk rfl rfl (FW.TupAt.mk ?l ?d ?s ?v); (case l => k_is); (case d => rfl); (case s => decide); (case v => repeat (first | exact .nil | refine' .cons ⟨_, rfl⟩ ?_))
    case k_CH => refine' FW.KTAt.mk ?g ?l ?d ?s ?v; (case g => k_is); (case l => k_is); (case d => rfl); (case s => decide); (case v => repeat (first | exact .nil | refine' .cons ⟨_, rfl⟩ ?_))
