import PyProof.Rows.All
import Wide.All
import OpenK.AllK
import Wide.FinOn
import HandS.ForMost
import HandS.Evl
import HandS.Walk
import HandS.IsInst
import HandS.Exc
import HandS.TryOnly
import HandS.ExcOwn
import HandS.ExcValue
import HandS.ExcIs
import HandS.WordsExc
import PySem.Challenge.RW_firstwake_k02_errors_by_hand
set_option Elab.async false
set_option linter.all false
set_option maxRecDepth 100000
set_option maxHeartbeats 2000000
namespace FW
open PySem PySem.Spec PyProof.Rows L2
open Evl (pss_cut tCut)
/-! ### defs of the top, how they are called -/
def Df (K : PySem.W.Frag) (mg : Str → Option Value) (x : Str) (st : Stmt) : Prop := ∃ f fd, Fun K x x st f fd ∧ mg x = some (.ref f)
def Ok (P : Program) (w : World) (K : PySem.W.Frag) (mg : Str → Option Value) (base : Heap) (CX : CXT) (k : Nat) (x : Str) (ps : List Str) (sp : Sp) : Prop :=
  ∃ f fd, FnOk P w K mg base CX k f fd ps sp ∧ mg x = some (.ref f) ∧ PySem.W.keepIn K (.ref f) = true ∧ Binds K fd ps [] ∧ ∃ oc od sl, K.lookup f = some ⟨oc, od, .func fd, sl⟩
abbrev BindT (x : Str) (st : Stmt) (ps : List Str) : Prop := ∀ (kV doc pm : Value) (an : Option Addr) (cdv ct : Value) (us : List Value), us.length = ps.length →
  bindArgs (PySem.W.fnOf x x (defArgs st) (defBody st) (defScope st) .none kV doc pm an cdv ct) ⟨us, []⟩ = pure (ps.zip us)
section
variable {P : Program} {w : World} {K : PySem.W.Frag} {mg : Str → Option Value} {base : Heap}
theorem Fun.there {x q : Str} {st : Stmt} {f : Addr} {fd : FuncData} (F : Fun K x q st f fd) : ∃ oc od sl, K.lookup f = some ⟨oc, od, .func fd, sl⟩ := by
  obtain ⟨oc, od, kV, doc, pm, an, cdv, ct, osl, _, lk, _⟩ := F.ex
  exact ⟨oc, od, osl, lk⟩
theorem Df.ok {x : Str} {st : Stmt} {N ps : List Str} {k : Nat} {sp : Sp} (D : Df K mg x st) (S : FnScope N ps (defScope st)) (hb : BindT x st ps) (len : ∀ vs H Q E, sp vs H Q E → vs.length = ps.length)
    (hbody : ∀ (cdv : Value) (A : Around) (outer : List Env) (s : Shared) (H : Hp) (f : Addr) (vs : List V) (Q : VK) (E : XK), Room k (A.deeper (envOfC x (defScope st) s.heap.objs.size f cdv)) → sp vs H Q E →
      ∃ t, PSs (cxOf CX0 P w K mg base N x (defScope st) f cdv A outer s H E).nox (defBody st) t ∧ t { nx := fun _ H' => Q .non H', rt := Q } (start N vs) H) : Ok P w K mg base CX0 (k + 1) x ps sp := by
  obtain ⟨f, fd, F, hm⟩ := D
  exact ⟨f, fd, F.ok S len (fun cdv A outer s H vs Q E => hbody cdv A outer s H f vs Q E), hm, F.kp, F.binds hb, Fun.there F⟩
theorem Df.okX {x : Str} {st : Stmt} {N ps : List Str} {k : Nat} {sp : Sp} (D : Df K mg x st) (S : FnScope N ps (defScope st)) (hb : BindT x st ps) (len : ∀ vs H Q E, sp vs H Q E → vs.length = ps.length)
    (hbody : ∀ (cdv : Value) (A : Around) (outer : List Env) (s : Shared) (H : Hp) (f : Addr) (vs : List V) (Q : VK) (E : XK), Room k (A.deeper (envOfC x (defScope st) s.heap.objs.size f cdv)) → sp vs H Q E →
      ∃ t, PSs (cxOf (L2.CX P w) P w K mg base N x (defScope st) f cdv A outer s H E) (defBody st) t ∧ t { nx := fun _ H' => Q .non H', rt := Q } (start N vs) H) : Ok P w K mg base (L2.CX P w) (k + 1) x ps sp := by
  obtain ⟨f, fd, F, hm⟩ := D
  exact ⟨f, fd, F.okX S len (fun cdv A outer s H vs Q E => hbody cdv A outer s H f vs Q E), hm, F.kp, F.binds hb, Fun.there F⟩
theorem Ok.imp {CX : CXT} {k : Nat} {x : Str} {ps : List Str} {sp sp' : Sp} (o : Ok P w K mg base CX k x ps sp) (h : ∀ vs H Q E, sp' vs H Q E → sp vs H Q E) : Ok P w K mg base CX k x ps sp' := by
  obtain ⟨f, fd, F, hm, hk, hb, ht⟩ := o
  exact ⟨f, fd, F.imp h, hm, hk, hb, ht⟩
theorem Ok.mono {CX : CXT} {j k : Nat} {x : Str} {ps : List Str} {sp : Sp} (o : Ok P w K mg base CX j x ps sp) (h : j ≤ k) : Ok P w K mg base CX k x ps sp := by
  obtain ⟨f, fd, F, hm, hk, hb, ht⟩ := o
  exact ⟨f, fd, F.mono h, hm, hk, hb, ht⟩
end
section
variable {X : Cx} {x : Str} {k : Nat} {ps : List Str} {sp : Sp} {e : Expr} {es : List Expr} {t : TA} {p pos : Pos}
theorem pe_callO (o : Ok X.prog X.w X.K X.mg X.base CX0 k x ps sp) (hr : Room k X.A) (ha : PA X (e :: es) t) (hg : Gl X x := by rfl)
    (hdb : (x == ("__debug__" : Str)) = false := by decide) (he : starEach (e :: es) X.env = (false, eval e X.env) :: starEach es X.env := by rfl) (hpl : (backTo pos (starEach es X.env)).any (·.1) = false := by rfl) :
    PE X (.Call (.Name x p) (e :: es) [] pos) (tCall sp [] E0 t) := by
  obtain ⟨f, fd, F, hm, hk, hb, ht⟩ := o
  exact pe_call F hr hg hm hk hb .nil pass0 ha hdb he hpl
theorem pe_callOX {W : WX} (o : Ok X.prog X.w X.K X.mg X.base (L2.CX X.prog X.w) k x ps sp) (hr : Room k X.A) (tk : Takes X W) (ha : PA X (e :: es) t) (hg : Gl X x := by rfl)
    (hdb : (x == ("__debug__" : Str)) = false := by decide) (he : starEach (e :: es) X.env = (false, eval e X.env) :: starEach es X.env := by rfl) (hpl : (backTo pos (starEach es X.env)).any (·.1) = false := by rfl) :
    PE X (.Call (.Name x p) (e :: es) [] pos) (tCallS sp (WE W) t) := by
  obtain ⟨f, fd, F, hm, hk, hb, ht⟩ := o
  exact pe_callS F hr hg hm hk hb (fun σ => passAt tk σ) ha hdb he hpl
/-- a module's constant that is an int -/
theorem pe_const {i : Int} (h : ∃ t, X.mg x = some (.int i t)) (hg : Gl X x := by rfl) (hd : (x == ("__debug__" : Str)) = false := by decide) : PE X (.Name x pos) (tC (.int i)) := by
  obtain ⟨t, h⟩ := h
  exact pe_glob hg h ⟨t, rfl⟩ hd
end
section
variable {X : Cx} {x : Str} {pos : Pos}
/-- a module's name that holds an object -/
theorem pe_refg {a : Addr} (h : X.mg x = some (.ref a)) (hg : Gl X x := by rfl) (hd : (x == ("__debug__" : Str)) = false := by decide) : PE X (.Name x pos) (tC (.ref a)) := pe_glob hg h rfl hd
end
/-! ### rules with the written part named (within a comprehension) -/
section
variable {X : Cx} {K : PySem.W.Frag}
theorem ix_tupK (h : X.K = K) : IxR X (rIxT K) := by
  subst h
  exact ix_tup
theorem ix_listK (h : X.K = K) : IxR X (rIxL K) := by
  subst h
  exact ix_list
theorem call_lenK (h : X.K = K) : CallR X (.builtin "len") (fun xs H Q => ∃ p ys, xs = [.ref p] ∧ (SqL K H p ys ∨ SqT K H p ys) ∧ Q (.int ys.length) H) := by
  subst h
  exact call_len_seq
theorem isiK (h : X.K = K) : CallR X (.builtin "isinstance") (rIsi K) := by
  subst h
  exact call_isi
end
/-! ### heaps -/
theorem same_new {H : Hp} {p : Addr} {o : HO} (h : H p = none) : Same H (upd H p o) := fun b x e => by
  rw [upd_ne (ne_of_none e h)]
  exact e
theorem Same.new {H H1 : Hp} {p : Addr} {o : HO} (s : Same H H1) (h : H1 p = none) : Same H (upd H1 p o) := s.trans (same_new h)
/-- what is not at p -/
def off (H : Hp) (p : Addr) : Hp := fun b => if b = p then none else H b
theorem off_ne {H : Hp} {p b : Addr} (h : b ≠ p) : off H p b = H b := by
  unfold off
  rw [if_neg h]
theorem off_same {H : Hp} {p : Addr} : off H p p = none := by
  unfold off
  rw [if_pos rfl]
theorem off_sub {H : Hp} {p : Addr} : Same (off H p) H := fun b o e => by
  by_cases h : b = p
  · subst h
    rw [off_same] at e
    cases e
  · rw [off_ne h] at e
    exact e
theorem off_of {H : Hp} {p b : Addr} {o : HO} (e : H b = some o) (h : b ≠ p) : off H p b = some o := by
  rw [off_ne h]
  exact e
theorem off_mono {H H' : Hp} {p : Addr} (s : Same H H') : Same (off H p) (off H' p) := fun b o e => by
  by_cases h : b = p
  · subst h
    rw [off_same] at e
    cases e
  · rw [off_ne h] at e
    rw [off_ne h]
    exact s b o e
theorem off_upd {H H' : Hp} {p : Addr} {o : HO} (s : Same (off H p) (off H' p)) : Same (off H p) (off (upd H' p o) p) := fun b u e => by
  have q := s b u e
  by_cases h : b = p
  · subst h
    rw [off_same] at e
    cases e
  · rw [off_ne h] at q
    rw [off_ne h, upd_ne h]
    exact q
/-- the pen at p: its cells (a list of ints), how many were read, what is left of the last -/
def Pen (H : Hp) (p : Addr) (B : Nat) : Prop := ∃ (c : Addr) (cs : List Int) (at' r : Int), H p = some (.lst [.ref c, .int at', .int r]) ∧ H c = some (.lst (cs.map V.int)) ∧ cs.length ≤ 12 ∧ 0 ≤ at' ∧ at' ≤ (B : Int)
theorem Pen.mono {H : Hp} {p : Addr} {B B' : Nat} (h : Pen H p B) (le : B ≤ B') : Pen H p B' := by
  obtain ⟨c, cs, at', r, h1, h2, h3, h4, h5⟩ := h
  exact ⟨c, cs, at', r, h1, h2, h3, h4, by omega⟩
theorem Pen.ext {H H' : Hp} {p : Addr} {B : Nat} (h : Pen H p B) (s : Same H H') : Pen H' p B := by
  obtain ⟨c, cs, at', r, h1, h2, h3, h4, h5⟩ := h
  exact ⟨c, cs, at', r, s _ _ h1, s _ _ h2, h3, h4, h5⟩
theorem pen_ne {H : Hp} {p c : Addr} {cs : List Int} {at' r : Int} (h1 : H p = some (.lst [.ref c, .int at', .int r])) (h2 : H c = some (.lst (cs.map V.int))) : c ≠ p := fun e => by
  subst e
  rw [h1] at h2
  have q := HO.lst.inj (Option.some.inj h2)
  cases cs with
  | nil => cases q
  | cons x l =>
    rw [List.map_cons] at q
    have := (List.cons.inj q).1
    cases this
/-! ### lists of ints -/
theorem cut_to {ns : List Int} (k : Nat) : cutV (ns.map V.int) none (some (k : Int)) = (ns.take k).map V.int := by
  unfold cutV
  rw [HT.sIx_none, HT.sIx_nat, List.drop_zero, List.length_map, Nat.sub_zero, ← List.map_take]
  congr 1
  rcases Nat.le_total k ns.length with h | h
  · rw [Nat.min_eq_left h]
  · rw [Nat.min_eq_right h, List.take_of_length_le (Nat.le_refl _), List.take_of_length_le h]
theorem cut_len {ns : List Int} (lo hi : Option Int) : ∃ ms : List Int, cutV (ns.map V.int) lo hi = ms.map V.int := by
  unfold cutV
  rw [← List.map_drop, ← List.map_take]
  exact ⟨_, rfl⟩
theorem cut_past {ns : List Int} {k h : Nat} (hn : ns.length ≤ k) : cutV (ns.map V.int) (some (k : Int)) (some (h : Int)) = [] := by
  unfold cutV
  rw [show HT.sIx (ns.map V.int).length 0 (some (k : Int)) = min k (ns.map V.int).length from HT.sIx_nat _ _ _, List.length_map, Nat.min_eq_right hn, List.drop_of_length_le (by rw [List.length_map]; exact Nat.le_refl _), List.take_nil]
theorem ints_get {ns : List Int} {j : Nat} (h : j < ns.length) : ∃ z, (ns.map V.int)[j]? = some (.int z) := ⟨ns[j], by rw [List.getElem?_map, List.getElem?_eq_getElem h]; rfl⟩
theorem ints_at {ns : List Int} {i : Int} (h0 : 0 ≤ i) (h : i < (ns.length : Int)) : ∃ z, z ∈ ns ∧ atI (ns.map V.int) i = some (.int z) := by
  obtain ⟨j, rfl⟩ := Int.eq_ofNat_of_zero_le h0
  have hj : j < ns.length := by omega
  exact ⟨ns[j], List.getElem_mem hj, atI_nat (by rw [List.getElem?_map, List.getElem?_eq_getElem hj]; rfl)⟩
theorem ixN_in {n : Nat} {i : Int} (h0 : 0 ≤ i) (h : i < (n : Int)) : ixN n i = some i.toNat := by
  unfold ixN
  rw [if_pos h0, if_pos h]
theorem ints_set {ns : List Int} {j : Nat} {z : Int} : (ns.map V.int).set j (.int z) = (ns.set j z).map V.int := by
  rw [List.map_set]
theorem sz_of {n : Nat} (h : n ≤ 100000) : n ≤ sizeLine := Nat.le_trans h (by decide)
theorem sz_lt {n : Nat} (h : n < 100000) : n < sizeLine := Nat.lt_of_lt_of_le h (by decide)
/-! ### the end -/
/-- what the written part says of a def -/
def DfAt (K : PySem.W.Frag) (x : Str) (st : Stmt) : Prop := ∃ (f : Addr) (oc : Value) (od : Option Addr) (kV doc pm : Value) (an : Option Addr) (cdv ct : Value) (sl : Array (Option Value)),
  PySem.W.nsIn K mainGlobals x = some (some (.ref f)) ∧ K.lookup f = some ⟨oc, od, .func (PySem.W.fnOf x x (defArgs st) (defBody st) (defScope st) .none kV doc pm an cdv ct), sl⟩ ∧ PySem.W.codeIn K cdv x = true ∧ PySem.W.keepIn K (.ref f) = true
theorem DfAt.mk {K : PySem.W.Frag} {x : Str} {st : Stmt} {f : Addr} {oc : Value} {od : Option Addr} {kV doc pm : Value} {an : Option Addr} {cdv ct : Value} {sl : Array (Option Value)} (a : PySem.W.nsIn K mainGlobals x = some (some (.ref f)))
    (l : K.lookup f = some ⟨oc, od, .func (PySem.W.fnOf x x (defArgs st) (defBody st) (defScope st) .none kV doc pm an cdv ct), sl⟩) (c : PySem.W.codeIn K cdv x = true) (k : PySem.W.keepIn K (.ref f) = true) : DfAt K x st :=
  ⟨f, oc, od, kV, doc, pm, an, cdv, ct, sl, a, l, c, k⟩
theorem DfAt.df {K : PySem.W.Frag} {mg : Str → Option Value} {h : Heap} {x : Str} {st : Stmt} (D : DfAt K x st) (X : K.In h) (G : h.Ns mainGlobals mg) : Df K mg x st := by
  obtain ⟨f, oc, od, kV, doc, pm, an, cdv, ct, sl, a, l, c, k⟩ := D
  exact ⟨f, _, fun_mk l c k, PySem.W.mg_of X G a⟩
theorem end_law {P : Program} {w : World} {K : PySem.W.Frag} {mg : Str → Option Value} {fa : Addr} {st : Stmt} {k : Nat} {sp : Sp} (D : Df K mg "law" st) (hb : BindT "law" st ["script"]) (hfa : mg "law" = some (.ref fa))
    (ok : ∀ base : Heap, K.In base → base.Ns mainGlobals mg → Ok P w K mg base CX0 k "law" ["script"] sp) :
    ∃ fd : FuncData, (∀ (s : Shared) (v : Value), BindsTo s fd ⟨[v], []⟩ [("script", v)]) ∧ ∀ base : Heap, K.In base → base.Ns mainGlobals mg → FnOk P w K mg base CX0 k fa fd ["script"] sp := by
  obtain ⟨f, fd, F, hm⟩ := D
  obtain ⟨oc, od, kV, doc, pm, an, cdv, ct, osl, e, lk, _⟩ := F.ex
  have ef : f = fa := Value.ref.inj (Option.some.inj (hm.symm.trans hfa))
  subst ef
  refine ⟨fd, fun s v => ?_, fun base h1 h2 => ?_⟩
  · subst e
    exact .of_eq (hb kV doc pm an cdv ct [v] rfl)
  · obtain ⟨f', fd', X, hm', _, _, oc', od', sl', lk'⟩ := ok base h1 h2
    have ef : f' = f := Value.ref.inj (Option.some.inj (hm'.symm.trans hm))
    subst ef
    rw [lk] at lk'
    have e2 : fd' = fd := by
      have z := congrArg Obj.data (Option.some.inj lk')
      injection z with z
      exact z.symm
    subst e2
    exact X
/-! ### lists by values -/
open Evl (Ex Ev EvA EvL fresh_back)
/-- te gives a list of xs, new or not -/
def EvLw (te : TE) (σ : L2.St) (H : Hp) (xs : List V) : Prop := ∀ H1, Ex H H1 → ∀ Q : VK, (∀ p H2, Ex H1 H2 → H2 p = some (.lst xs) → Q (.ref p) H2) → te σ H1 Q
section
variable {σ : L2.St} {H : Hp} {ta tb te : TE}
theorem elw_new {xs : List V} (h : EvL te σ H xs) : EvLw te σ H xs := fun H1 e Q q => h H1 e Q fun p H2 _ e2 h2 => q p H2 e2 h2
theorem elw_var {i : Nat} {p : Addr} {xs : List V} (hi : σ[i]? = some (some (.ref p))) (hp : H p = some (.lst xs)) : EvLw (tVar i) σ H xs := fun H1 e Q q => ⟨.ref p, hi, q p H1 (Evl.Ex.refl _) (e p _ hp)⟩
theorem el_cat {xs ys : List V} (ha : EvLw ta σ H xs) (hb : EvLw tb σ H ys) (hz : xs.length + ys.length ≤ 100000) : EvL (tOp rCat ta tb) σ H (xs ++ ys) := fun H1 e Q q =>
  ha H1 e _ fun p H2 e2 h2 => hb H2 (e.trans e2) _ fun r H3 e3 h3 => ⟨p, r, xs, ys, rfl, rfl, e3 p _ h2, h3, sz_of hz, fun u nu => q u _ (fresh_back (e2.trans e3) nu) ((e2.trans e3).trans (same_new nu)) upd_same⟩
theorem el_rep {xs : List V} {k : Int} (ha : EvLw ta σ H xs) (hb : Ev tb σ H (.int k)) (h0 : 0 ≤ k) (h1 : k ≤ 1000) (hz : xs.length * k.toNat ≤ 100000) : EvL (tOp rRep ta tb) σ H (List.replicate k.toNat xs).flatten := fun H1 e Q q =>
  ha H1 e _ fun p H2 e2 h2 => hb H2 (e.trans e2) _ fun H3 e3 => ⟨p, k, xs, rfl, rfl, e3 p _ h2, by omega, by omega, sz_of hz, fun u nu => q u _ (fresh_back (e2.trans e3) nu) ((e2.trans e3).trans (same_new nu)) upd_same⟩
end
end FW
set_option Elab.async false
set_option linter.all false
set_option maxRecDepth 100000
set_option maxHeartbeats 4000000
namespace FW
open PySem PySem.Spec PyProof.Rows L2
/-! ### exceptions as values -/
/-- an exception object of the class cls, its dict d, at a, whatever was raised -/
def ExI (cls : Value) (d : Option Addr) (a : Addr) : HO := .ext fun h => ∃ (ob : Obj) (fv : Array Value), h.get? a = some ob ∧ Zc cls d ob ∧ ob.data = .fields fv
/-- at a stands an exception object of the class at C, without a dict of its own -/
def IsEx (H : Hp) (a C : Addr) : Prop := ∃ φ : Heap → Prop, H a = some (.ext φ) ∧ ∀ h, φ h → ∃ (ob : Obj) (fv : Array Value), h.get? a = some ob ∧ Zc (.ref C) none ob ∧ ob.data = .fields fv
theorem IsEx.i {H : Hp} {a C : Addr} (e : H a = some (ExI (.ref C) none a)) : IsEx H a C := ⟨_, e, fun _ x => x⟩
theorem IsEx.o {H : Hp} {a C : Addr} (e : H a = some (ExO (.ref C) a)) : IsEx H a C := ⟨_, e, fun _ x => by
  obtain ⟨ob, fv, h1, h2, h3, _⟩ := x
  exact ⟨ob, fv, h1, h2, h3⟩⟩
theorem IsEx.same {H H' : Hp} {a C : Addr} (x : IsEx H a C) (s : Same H H') : IsEx H' a C := by
  obtain ⟨φ, e, k⟩ := x
  exact ⟨φ, s _ _ e, k⟩
/-- isinstance(x, c), x an exception object that is tracked -/
def rIsX (K : PySem.W.Frag) : List V → Hp → VK → Prop := fun xs H Q => ∃ (a C : Addr) (c : V) (cv : Value) (b : Bool), xs = [.ref a, c] ∧ IsEx H a C ∧ ExcC K C ∧ ClsV c cv ∧ PySem.W.kitOne K (.ref C) cv = some b ∧ Q (.bl b) H
theorem call_isX {X : Cx} : CallR X (.builtin "isinstance") (rIsX X.K) := by
  intro pins s σ H xs us Q I r h
  obtain ⟨a, C, c, cv, b, rfl, ⟨φ, hφ, kφ⟩, EC, hc, hk, q⟩ := h
  cases r with
  | cons r1 r' =>
    cases r' with
    | cons r2 r'' =>
      cases r''
      cases r1
      have e2 := hc.eq r2
      subst e2
      have hob : ObjOk X.prog X.w H s.heap a (.ext φ) := I.hok a _ hφ
      obtain ⟨ob, fv, h1, ⟨h2, h3⟩, h4⟩ := kφ _ hob.1
      have inst : PySem.W.InstAt s.heap a ob C none := by
        refine ⟨h1, h2, ?_, ?_⟩
        · unfold PySem.W.notCls
          rw [h4]
        · rw [h3]
          trivial
      exact PySem.W.kia_one (PySem.W.handS_kitx_exc EC.hg EC.hk EC.hs EC.hd EC.ha EC.hn EC.ht EC.hm) I.kIn inst hk (fun z => nomatch z) fun n => ⟨.bl b, H, I.tok n, rfl, q⟩
section
variable {X : Cx} {pins : List (Addr × Obj)} {σ : L2.St} {H : Hp} {s : Shared}
/-- a known object that none tracks yet is tracked from here on -/
theorem track_ok {a : Addr} {ob : Obj} {fv : Array Value} {cls : Value} {d : Option Addr} (I : Inv X pins σ H s) (h1 : s.heap.get? a = some ob) (h2 : H a = none) (h3 : a ≠ X.env.locals) (h4 : Zc cls d ob) (h5 : ob.data = .fields fv)
    (h6 : X.s_0.heap.get? a = none) (h7 : ∀ p ∈ X.pn ++ pins, p.1 ≠ a) : Inv X pins σ (upd H a (ExI cls d a)) s := by
  have new : ObjOk X.prog X.w (upd H a (ExI cls d a)) s.heap a (ExI cls d a) := ⟨⟨ob, fv, h1, h4, h5⟩, ⟨ob, h1⟩, fun _ _ ⟨o, v, e, r⟩ k => ⟨o, v, k o e, r⟩⟩
  refine ⟨I.ok, I.os, I.bare, ⟨I.base.keep, I.base.slot, fun b o e n x => ?_, I.base.there, fun b xs e => ?_, fun b o u e => ?_, fun b ps e => ?_⟩, I.loc, I.cell, ?_, fun x c e => ?_, fun p hp => ?_, HOk.laidN I.hok (fun _ _ z => z) h2 new, I.len⟩
  · have hb : b ≠ a := fun z => by
      rw [z, h6] at e
      cases e
    rw [upd_ne hb]
    exact I.base.free b o e n x
  · have q := I.base.tups b xs e
    rw [upd_ne (ne_of_none q h2)]
    exact q
  · have q := I.base.frzs b o u e
    rw [upd_ne (ne_of_none q h2)]
    exact q
  · obtain ⟨m, q⟩ := I.base.tbls b ps e
    exact ⟨m, by rw [upd_ne (ne_of_none q h2)]; exact q⟩
  · rw [upd_ne (Ne.symm h3)]
    exact I.free
  · have hca : c ≠ a := fun z => by
      obtain ⟨v, o, e1, e2⟩ := I.cell x c e
      rw [z, h1] at e1
      cases e1
      rw [h5] at e2
      cases e2
    rw [upd_ne hca]
    exact I.freeC x c e
  · obtain ⟨g1, g2, g3, g4, g5⟩ := I.pin p hp
    exact ⟨g1, by rw [upd_ne (h7 p hp)]; exact g2, g3, g4, g5⟩
end
/-- what is wanted of an exception that a clause with a name may take: behind the suite the object itself is tracked -/
def wAsK (K : PySem.W.Frag) (c : Value) (i : Nat) (ts : Addr → Value → Option Addr → TS) (Wo : WX) (D : Ends) : WX := fun cls d σ H =>
  ∃ b, PySem.W.exmOne K cls c = some b ∧
    (b = true → ∀ a, H a = none → ts a cls d { nx := fun σ' H' => D.nx (σ'.set i none) (upd H' a (ExI cls d a)), rt := fun _ _ => False } (σ.set i (some (.ref a))) H) ∧ (b = false → Wo cls d σ H)
section
variable {X : Cx} {x n : Str} {c : Value} {i : Nat} {body suite : List Stmt} {st0 : Stmt} {np po po' : Pos} {tb : WX → TS} {ts : Addr → Value → Option Addr → TS} {Wo : WX}
/-- try: .. except x as n: suite, the suite ends plainly, and what it caught is kept by another name -/
theorem ps_try_asK (hst : X.stack = X.env :: X.outer) (hfl : X.env.frame = some X.env.locals) (hnd : X.N.Nodup) (hix : X.N[i]? = some n) (hlo : X.env.kindOf n = some .local) (hex : X.ex = []) (hcx : Names X x c) (htk : Takes X Wo)
    (hbody : ∀ (W : WX) (pn : List (Addr × Obj)) (xe : Value → Shared → Prop), Takes (X.tr pn xe) W → PassesOwn (model X.prog X.w) X.A X.env xe → PSs (X.tr pn xe) body (tb W))
    (hsuite : ∀ (a : Addr) (ob : Obj) (cls : Value) (d : Option Addr) (pn : List (Addr × Obj)), Zc cls d ob → (∃ fv, ob.data = .fields fv) → PSs (X.suite a ((a, ob) :: pn)) (st0 :: suite) (ts a cls d)) :
    PS X (.Try body [.ExceptHandler (some (.Name x np)) (some n) (st0 :: suite) po'] [] [] po) (fun D σ H => tb (wAsK X.K c i ts Wo D) D σ H) := by
  refine ⟨fun pins s σ H D I0 hr0 => ?_⟩
  have okX := I0.ok
  have frX : X.A.frames = some (X.env :: X.outer) := okX.frames.trans (by rw [hst])
  have locN : Loc X.env.scope n := Or.inl hlo
  refine wpAny_Try_except ?_
  have run := (hbody (wAsK X.K c i ts Wo D) (X.pn ++ pins)
    (fun e t1 => wpAny (model X.prog X.w) X.A (noteFrame e X.env)
      (fun _ t2 => wpAny (model X.prog X.w) X.A (setFlight e none)
        (fun _ t3 => wpAny (model X.prog X.w) X.A (handleBy e X.env [.ExceptHandler (some (.Name x np)) (some n) (st0 :: suite) po']) (SP X pins D) X.xe t3) X.xe t2) X.xe t1) (fun u sx air => ?_)
    PassesOwn.looking).run [] s σ H D (I0.toTry _) hr0
  · refine wpAny_mono run (fun fl s1 hsp => ?_) (fun e s1 he => he)
    cases fl with
    | next =>
      obtain ⟨σ1, H1, K1, q1⟩ := hsp
      exact wpAny_execs_nil ⟨σ1, H1, K1.ofTry okX, q1⟩
    | brk =>
      obtain ⟨σ1, H1, K1, q1⟩ := hsp
      exact ⟨σ1, H1, K1.ofTry okX, q1⟩
    | cont =>
      obtain ⟨σ1, H1, K1, q1⟩ := hsp
      exact ⟨σ1, H1, K1.ofTry okX, q1⟩
    | ret u =>
      obtain ⟨v1, σ1, H1, K1, r1, q1⟩ := hsp
      exact ⟨v1, σ1, H1, K1.ofTry okX, r1, q1⟩
  · obtain ⟨a, B, sI, pinT, σT, HT', cls, d, rfl, JT, ground, upT, skyT, noA, osT, bareT, b, hb1, hyes, hno⟩ := air
    have JI : Inv X pins σT HT' sI := JT.ofTry okX
    have skyX : Sky B (X.env :: X.outer) a (Zc cls d) X.env.locals sx.heap := hst ▸ skyT
    show wpAny (model X.prog X.w) X.A (noteFrame (Value.ref a) X.env) _ X.xe _
    refine Sky.land Zc.steady frX hfl skyX fun hA flA upA => ?_
    have JA : Inv X pins σT HT' { sx with heap := hA } := JI.landed ground flA.1 (upT.trans upA) osT bareT
    obtain ⟨obA, fvA, geA, zA, dA⟩ := flA.there
    have offFr : a ∉ frs (X.env :: X.outer) := fun hm => by
      obtain ⟨_, o', e', hnf⟩ := flA.2.2.1.mem hm
      rw [geA] at e'
      cases e'
      exact hnf _ dA
    have offL : a ≠ X.env.locals := fun z => offFr (List.mem_filterMap.mpr ⟨X.env, List.mem_cons_self, by rw [hfl, z]⟩)
    have offF : a ∉ X.fs := fun hm => by
      obtain ⟨e, he, q⟩ := List.mem_filterMap.mp hm
      exact offFr (List.mem_filterMap.mpr ⟨e, List.mem_cons_of_mem _ he, q⟩)
    -- the object is younger than the try's body
    have newI : sI.heap.get? a = none := by
      cases e : sI.heap.get? a with
      | none => rfl
      | some o =>
        have z := ground a o e (by rw [hst]; exact offFr)
        rw [flA.2.1] at z
        cases z
    have new0 : X.s_0.heap.get? a = none := by
      cases e : X.s_0.heap.get? a with
      | none => rfl
      | some o =>
        obtain ⟨o', z⟩ := JI.base.there a o e (by rw [hex]; exact fun q => nomatch q)
        rw [newI] at z
        cases z
    have offP : ∀ p ∈ X.pn ++ pins, p.1 ≠ a := fun p hp z => by
      have g := (JI.pin p hp).1
      rw [z, newI] at g
      cases g
    have SA := JA.suite geA dA noA offL offF
    refine wpAny_handleBy_cons (codeAny_handlers_test ?_) (fun z => by cases z)
    have tyA : PySem.W.Looks (model X.prog X.w) hA (typeOf (.ref a)) cls := fun A' Q' E' s' k q => wpAny_typeOf_ref (k _ _ geA) (zA.1.symm ▸ q)
    have exm := PySem.W.exm_one (M := model X.prog X.w) JA.kIn tyA hb1
    have named : ∀ {Q' : Value → Shared → Prop} {E' : Value → Shared → Prop}, Q' c { sx with heap := hA } → wpAny (model X.prog X.w) (X.A.mark (some (.ref a))) (eval (.Name x np) X.env) Q' E' { sx with heap := hA } := fun {Q' E'} q => by
      obtain ⟨hg, hdb, hm | ⟨hm, hv, hnn⟩⟩ := hcx
      · exact ld_glob (X := X.suite a ((a, obA) :: (X.pn ++ pins))) SA hg hm q hdb
      · exact ld_blt (X := X.suite a ((a, obA) :: (X.pn ++ pins))) SA hg hm hv q hnn hdb
    refine named (exm.here ?_)
    cases b with
    | true =>
      refine codeAny_handlers_suite_as (HandSPX.lands_againZ flA fun hB flB upB => ?_)
      have JB : Inv X pins σT HT' { sx with heap := hB } := JI.landed ground flB.1 ((upT.trans upA).trans upB) osT bareT
      obtain ⟨obB, fvB, geB, zB, dB⟩ := flB.there
      have SB := JB.suite geB dB noA offL offF
      refine store_ok (X := X.suite a ((a, obB) :: (X.pn ++ pins))) (v := .ref a) SB hnd hix locN rfl (fun sC SC => ?_) (.inr hlo)
      refine wpAny_mono ((hsuite a obB cls d (X.pn ++ pins) zB ⟨_, dB⟩).run [] sC _ HT' _ SC (hyes rfl a noA)) (fun fl sD hsp => ?_) (fun _ _ z => False.elim z)
      cases fl with
      | next =>
        obtain ⟨σD, HD, SD, qD⟩ := hsp
        obtain ⟨p1, p2, p3, _, _⟩ := SD.pin (a, obB) (List.mem_append_left _ List.mem_cons_self)
        have JD : Inv X pins σD (upd HD a (ExI cls d a)) sD := track_ok (SD.unsuite okX) p1 p2 p3 zB dB new0 offP
        exact gone_ok JD hnd hix hlo fun sE JE => ⟨_, _, JE, qD⟩
      | brk =>
        obtain ⟨_, _, _, z⟩ := hsp
        exact z.elim
      | cont =>
        obtain ⟨_, _, _, z⟩ := hsp
        exact z.elim
      | ret u =>
        obtain ⟨_, _, _, _, _, z⟩ := hsp
        exact z.elim
    | false =>
      show wpAny (model X.prog X.w) X.A (handleBy (Value.ref a) X.env []) _ _ _
      refine wpAny_handleBy_nil ?_
      obtain ⟨k1, k2, k3, ob, fv, tbA, oT, tsT, ge, zz, dd, hv1, hr⟩ := id flA
      unfold PySem.passOn
      refine wpAny_bind (wpAny_field ge dd hv1 ?_)
      rw [if_neg (show ¬ ((Value.ref tbA == Value.none) = true) from by simp)]
      have out : wpAny (model X.prog X.w) X.A (setFlight (.ref a) X.env.frame) (fun _ t4 => wpAny (model X.prog X.w) X.A (throw (.ref a) : Sem Flow) (SP X pins D) X.xe t4) X.xe { sx with heap := hA } := by
        rw [hfl]
        refine HandSPX.setFlight_upZ flA fun hC hhC upC => wpAny_throw (htk _ _ ?_)
        exact ⟨a, B, sI, pins, σT, HT', cls, d, rfl, JI, ground, (upT.trans upA).trans upC, .inr (.inr (by rw [hst]; exact hhC)), noA, osT, bareT, hno rfl⟩
      first
        | exact wpAny_bind (wpAny_pure (wpAny_bind out))
        | exact wpAny_bind out
end
/-! ### lists of exceptions -/
open Evl (Ex Ev EvA EvL fresh_back)
inductive Exs (H : Hp) : List V → List Addr → Prop where
  | nil : Exs H [] []
  | cons {a C : Addr} {vs : List V} {Cs : List Addr} : IsEx H a C → Exs H vs Cs → Exs H (.ref a :: vs) (C :: Cs)
theorem Exs.same {H H' : Hp} {vs : List V} {Cs : List Addr} (s : Same H H') (x : Exs H vs Cs) : Exs H' vs Cs := by
  induction x with
  | nil => exact .nil
  | cons h _ ih => exact .cons (h.same s) ih
theorem Exs.app {H : Hp} {vs us : List V} {Cs Ds : List Addr} (x : Exs H vs Cs) (y : Exs H us Ds) : Exs H (vs ++ us) (Cs ++ Ds) := by
  induction x with
  | nil => exact y
  | cons h _ ih => exact .cons h ih
theorem Exs.len {H : Hp} {vs : List V} {Cs : List Addr} (x : Exs H vs Cs) : vs.length = Cs.length := by
  induction x with
  | nil => rfl
  | cons _ _ ih => rw [List.length_cons, List.length_cons, ih]
theorem Exs.at {H : Hp} {vs : List V} {Cs : List Addr} (x : Exs H vs Cs) : ∀ {k : Nat} {v : V}, vs[k]? = some v → ∃ a C, v = .ref a ∧ Cs[k]? = some C ∧ IsEx H a C := by
  induction x with
  | nil => intro k v e; simp at e
  | @cons a C vs Cs h _ ih =>
    intro k v e
    cases k with
    | zero => exact ⟨a, C, (Option.some.inj e).symm, rfl, h⟩
    | succ k => exact ih (k := k) e
theorem Exs.off {H : Hp} {vs : List V} {Cs : List Addr} {p : Addr} {xs : List V} (hp : H p = some (.lst xs)) (x : Exs H vs Cs) : Exs (off H p) vs Cs := by
  induction x with
  | nil => exact .nil
  | cons h _ ih =>
    refine .cons ?_ ih
    obtain ⟨φ, e, k⟩ := h
    refine ⟨φ, off_of e fun z => ?_, k⟩
    subst z
    rw [hp] at e
    cases e
def EvAX (ta : TA) (σ : L2.St) (H : Hp) (Cs : List Addr) : Prop := ∀ H1, Ex H H1 → ∀ Q : List V → Hp → Prop, (∀ vs H2, Ex H1 H2 → Exs H2 vs Cs → Q vs H2) → ta σ H1 Q
def EvLX (te : TE) (σ : L2.St) (H : Hp) (Cs : List Addr) : Prop := ∀ H1, Ex H H1 → ∀ Q : VK, (∀ p vs H2, H1 p = none → Ex H1 H2 → H2 p = some (.lst vs) → Exs H2 vs Cs → Q (.ref p) H2) → te σ H1 Q
def EvLXw (te : TE) (σ : L2.St) (H : Hp) (Cs : List Addr) : Prop := ∀ H1, Ex H H1 → ∀ Q : VK, (∀ p vs H2, Ex H1 H2 → H2 p = some (.lst vs) → Exs H2 vs Cs → Q (.ref p) H2) → te σ H1 Q
section
variable {σ : L2.St} {H : Hp} {ta tb te : TE} {tr : TA} {Cs Ds : List Addr} {C : Addr} {x : V}
theorem eax_nil : EvAX tNil σ H [] := fun H1 _ _ q => q [] H1 (Evl.Ex.refl _) .nil
theorem eax_cons (h : Ev ta σ H x) (hr : EvAX tr σ H Cs) : EvAX (tCons (fun σ H Q => ta σ H fun _ H1 => ∀ a, H1 a = none → Q (.ref a) (upd H1 a (ExO (.ref C) a))) tr) σ H (C :: Cs) := fun H1 e Q q =>
  h H1 e _ fun H2 e2 a na => hr (upd H2 a (ExO (.ref C) a)) ((e.trans e2).trans (same_new na)) _ fun vs H3 e3 y => q (.ref a :: vs) H3 ((e2.trans (same_new na)).trans e3) (.cons (IsEx.o (e3 a _ upd_same)) y)
theorem elx_lst (h : EvAX tr σ H Cs) (hl : Cs.length ≤ 100000) : EvLX (tLst tr) σ H Cs := fun H1 e Q q =>
  h H1 e _ fun vs H2 e2 y => ⟨sz_of (by rw [y.len]; exact hl), fun p np => q p vs _ (fresh_back e2 np) (e2.trans (same_new np)) upd_same (y.same (same_new np))⟩
theorem elxw_new (h : EvLX te σ H Cs) : EvLXw te σ H Cs := fun H1 e Q q => h H1 e Q fun p vs H2 _ e2 h2 y => q p vs H2 e2 h2 y
theorem elxw_var {i : Nat} {p : Addr} {vs : List V} (hi : σ[i]? = some (some (.ref p))) (hp : H p = some (.lst vs)) (y : Exs H vs Cs) : EvLXw (tVar i) σ H Cs := fun H1 e Q q => ⟨.ref p, hi, q p vs H1 (Evl.Ex.refl _) (e p _ hp) (y.same e)⟩
theorem elx_cat (ha : EvLXw ta σ H Cs) (hb : EvLXw tb σ H Ds) (hz : Cs.length + Ds.length ≤ 100000) : EvLX (tOp rCat ta tb) σ H (Cs ++ Ds) := fun H1 e Q q =>
  ha H1 e _ fun p vs H2 e2 h2 y => hb H2 (e.trans e2) _ fun r us H3 e3 h3 z => ⟨p, r, vs, us, rfl, rfl, e3 p _ h2, h3, sz_of (by rw [y.len, z.len]; exact hz), fun u nu =>
    q u _ _ (fresh_back (e2.trans e3) nu) ((e2.trans e3).trans (same_new nu)) upd_same (((y.same e3).app z).same (same_new nu))⟩
theorem q_asgX {i : Nat} {tz : TS} {D : Ends} (h : EvLX te σ H Cs) (k : ∀ p vs H1, Ex H H1 → H1 p = some (.lst vs) → Exs H1 vs Cs → tz D (σ.set i (some (.ref p))) H1) : tSeq (tAsg te (gName i)) tz D σ H :=
  h H (Evl.Ex.refl _) _ fun p vs H1 _ e h1 y => k p vs H1 e h1 y
end
end FW
set_option Elab.async false
set_option linter.all false
set_option maxRecDepth 100000
set_option maxHeartbeats 4000000
namespace FW
open PySem PySem.Spec PyProof.Rows L2
open Evl (pss_cut tCut)
/-! ### the classes of errors -/
structure Cs where
  (WakeError NoProgram NoInputs NoPlan NoOrder NoAccess NoUnit NoFunction NoPrices NoPlaces NoNumber NoStarts NoState NoMove NoRoom TooLong TooMany : Addr)
abbrev CA (c : Cs) : List Addr := [c.NoProgram, c.NoInputs, c.NoPlan, c.NoOrder, c.NoAccess, c.NoUnit, c.NoFunction, c.NoPrices, c.NoPlaces, c.NoNumber, c.NoStarts, c.NoState, c.NoMove, c.NoRoom, c.TooLong, c.TooMany]
abbrev bVE : List Value := [.type "ValueError", .type "Exception", .type "BaseException", .type "object"]
structure ECl (K : PySem.W.Frag) (mg : Str → Option Value) (x : Str) (C : Addr) (mro : List Value) : Prop where
  g : mg x = some (.ref C)
  k : PySem.W.keepIn K (.ref C) = true
  xx : PySem.W.excIn K C bVE "ValueError.__new__" = true
  ec : ExcC K C
  m : ∃ cd, PySem.W.clsIn K C = some cd ∧ cd.mro = mro
  ty : PySem.W.typeIn K (.ref C) = some (.type "type")
structure TExc (K : PySem.W.Frag) (mg : Str → Option Value) (c : Cs) : Prop where
  e_WakeError : ECl K mg "WakeError" c.WakeError (.ref c.WakeError :: bVE)
  e_NoProgram : ECl K mg "NoProgram" c.NoProgram (.ref c.NoProgram :: .ref c.WakeError :: bVE)
  e_NoInputs : ECl K mg "NoInputs" c.NoInputs (.ref c.NoInputs :: .ref c.WakeError :: bVE)
  e_NoPlan : ECl K mg "NoPlan" c.NoPlan (.ref c.NoPlan :: .ref c.WakeError :: bVE)
  e_NoOrder : ECl K mg "NoOrder" c.NoOrder (.ref c.NoOrder :: .ref c.WakeError :: bVE)
  e_NoAccess : ECl K mg "NoAccess" c.NoAccess (.ref c.NoAccess :: .ref c.WakeError :: bVE)
  e_NoUnit : ECl K mg "NoUnit" c.NoUnit (.ref c.NoUnit :: .ref c.WakeError :: bVE)
  e_NoFunction : ECl K mg "NoFunction" c.NoFunction (.ref c.NoFunction :: .ref c.WakeError :: bVE)
  e_NoPrices : ECl K mg "NoPrices" c.NoPrices (.ref c.NoPrices :: .ref c.WakeError :: bVE)
  e_NoPlaces : ECl K mg "NoPlaces" c.NoPlaces (.ref c.NoPlaces :: .ref c.WakeError :: bVE)
  e_NoNumber : ECl K mg "NoNumber" c.NoNumber (.ref c.NoNumber :: .ref c.WakeError :: bVE)
  e_NoStarts : ECl K mg "NoStarts" c.NoStarts (.ref c.NoStarts :: .ref c.WakeError :: bVE)
  e_NoState : ECl K mg "NoState" c.NoState (.ref c.NoState :: .ref c.WakeError :: bVE)
  e_NoMove : ECl K mg "NoMove" c.NoMove (.ref c.NoMove :: .ref c.WakeError :: bVE)
  e_NoRoom : ECl K mg "NoRoom" c.NoRoom (.ref c.NoRoom :: .ref c.WakeError :: bVE)
  e_TooLong : ECl K mg "TooLong" c.TooLong (.ref c.TooLong :: .ref c.WakeError :: bVE)
  e_TooMany : ECl K mg "TooMany" c.TooMany (.ref c.TooMany :: .ref c.WakeError :: bVE)
  nd : (c.WakeError :: CA c).Nodup
section
variable {K : PySem.W.Frag} {mg : Str → Option Value} {c : Cs}
theorem ref_beq {C D : Addr} : (Value.ref D == Value.ref C) = (D == C) := by
  by_cases e : D = C
  · subst e
    rw [beq_self_eq_true, beq_self_eq_true]
  · rw [beq_eq_false_iff_ne.mpr e]
    exact beq_eq_false_iff_ne.mpr fun z => e (Value.ref.inj z)
theorem has_ve {D : Addr} : List.contains bVE (Value.ref D) = false := rfl
theorem has_ref {C D : Addr} {l : List Value} : List.contains (.ref C :: l) (Value.ref D) = ((D == C) || List.contains l (Value.ref D)) := by
  rw [List.contains_cons, ref_beq]
theorem has_ty {C : Addr} {l : List Value} {t : String} : List.contains (.ref C :: l) (Value.type t) = List.contains l (Value.type t) := by
  rw [List.contains_cons]
  show (false || List.contains l (Value.type t)) = List.contains l (Value.type t)
  rw [Bool.false_or]
theorem kit_own {x y : Str} {C D : Addr} {m1 m2 : List Value} (hC : ECl K mg x C m1) (hD : ECl K mg y D m2) (hne : m1.isEmpty = false) : PySem.W.kitOne K (.ref C) (.ref D) = some (decide (C = D) || m1.contains (.ref D)) := by
  unfold PySem.W.kitOne
  by_cases e : C = D
  · subst e
    rw [if_pos (show (Value.ref C == Value.ref C) = true from by rw [ref_beq, beq_self_eq_true]), decide_eq_true rfl, Bool.true_or]
  · rw [if_neg (show ¬ ((Value.ref C == Value.ref D) = true) from fun z => by rw [ref_beq] at z; exact e (eq_of_beq z)), decide_eq_false e, Bool.false_or]
    obtain ⟨cd, h1, h2⟩ := hC.m
    obtain ⟨cd', h3, _⟩ := hD.m
    unfold PySem.W.kitCls
    dsimp only
    rw [if_pos (by rw [h3, hD.ty]; rfl)]
    unfold PySem.W.subIn PySem.W.mroIn
    dsimp only
    rw [h1]
    show (if cd.mro.isEmpty = true then none else some (cd.mro.contains (Value.ref D))) = _
    rw [h2, hne, if_neg Bool.false_ne_true]
theorem kit_ty1 {x : Str} {C : Addr} {m1 : List Value} {t : String} (hC : ECl K mg x C m1) (hne : m1.isEmpty = false) (ht : PySem.W.kitMeta t = true) (hm : m1.contains (.type t) = true) : PySem.W.kitOne K (.ref C) (.type t) = some true := by
  unfold PySem.W.kitOne
  rw [if_neg (show ¬ ((Value.ref C == Value.type t) = true) from fun z => by cases z)]
  obtain ⟨cd, h1, h2⟩ := hC.m
  unfold PySem.W.kitCls
  dsimp only
  rw [if_pos ht]
  unfold PySem.W.subIn PySem.W.mroIn
  dsimp only
  rw [h1]
  show (if cd.mro.isEmpty = true then none else some (cd.mro.contains (Value.type t))) = _
  rw [h2, hne, if_neg Bool.false_ne_true, hm]
theorem TExc.sub (T : TExc K mg c) {C : Addr} (h : C ∈ CA c) : ∃ x, ECl K mg x C (.ref C :: .ref c.WakeError :: bVE) := by
  simp only [CA, List.mem_cons, List.not_mem_nil, or_false] at h
  rcases h with rfl | rfl | rfl | rfl | rfl | rfl | rfl | rfl | rfl | rfl | rfl | rfl | rfl | rfl | rfl | rfl
  · exact ⟨_, T.e_NoProgram⟩
  · exact ⟨_, T.e_NoInputs⟩
  · exact ⟨_, T.e_NoPlan⟩
  · exact ⟨_, T.e_NoOrder⟩
  · exact ⟨_, T.e_NoAccess⟩
  · exact ⟨_, T.e_NoUnit⟩
  · exact ⟨_, T.e_NoFunction⟩
  · exact ⟨_, T.e_NoPrices⟩
  · exact ⟨_, T.e_NoPlaces⟩
  · exact ⟨_, T.e_NoNumber⟩
  · exact ⟨_, T.e_NoStarts⟩
  · exact ⟨_, T.e_NoState⟩
  · exact ⟨_, T.e_NoMove⟩
  · exact ⟨_, T.e_NoRoom⟩
  · exact ⟨_, T.e_TooLong⟩
  · exact ⟨_, T.e_TooMany⟩
theorem TExc.wne (T : TExc K mg c) {C : Addr} (h : C ∈ CA c) : C ≠ c.WakeError := fun e => by
  subst e
  exact (List.nodup_cons.mp T.nd).1 h
/-- whether an error of the class at C is of a class of the list -/
theorem TExc.kind (T : TExc K mg c) {C D : Addr} (hC : C = c.WakeError ∨ C ∈ CA c) (hD : D ∈ CA c) : PySem.W.kitOne K (.ref C) (.ref D) = some (decide (C = D)) := by
  obtain ⟨y, eD⟩ := T.sub hD
  have nW := T.wne hD
  rcases hC with rfl | hC
  · rw [kit_own T.e_WakeError eD rfl]
    rw [has_ref, has_ve, Bool.or_false, beq_eq_false_iff_ne.mpr nW, Bool.or_false]
  · obtain ⟨x, eC⟩ := T.sub hC
    rw [kit_own eC eD rfl]
    by_cases e : C = D
    · subst e
      rw [decide_eq_true rfl, Bool.true_or]
    · rw [has_ref, has_ref, has_ve, Bool.or_false, beq_eq_false_iff_ne.mpr nW, Bool.or_false, beq_eq_false_iff_ne.mpr (Ne.symm e), Bool.or_false]
theorem TExc.wake (T : TExc K mg c) {C : Addr} (hC : C ∈ CA c) : PySem.W.kitOne K (.ref C) (.ref c.WakeError) = some true := by
  obtain ⟨x, eC⟩ := T.sub hC
  rw [kit_own eC T.e_WakeError rfl, has_ref, has_ref, beq_self_eq_true, Bool.true_or, Bool.or_true, Bool.or_true]
theorem TExc.value (T : TExc K mg c) {C : Addr} (hC : C = c.WakeError ∨ C ∈ CA c) : PySem.W.kitOne K (.ref C) (.type "ValueError") = some true := by
  rcases hC with rfl | hC
  · exact kit_ty1 T.e_WakeError rfl (by decide +kernel) (by rw [has_ty]; decide +kernel)
  · obtain ⟨x, eC⟩ := T.sub hC
    exact kit_ty1 eC rfl (by decide +kernel) (by rw [has_ty, has_ty]; decide +kernel)
/-- an error NoProgram is what «except WakeError» names -/
theorem TExc.exm (T : TExc K mg c) : PySem.W.exmOne K (.ref c.NoProgram) (.ref c.WakeError) = some true := by
  obtain ⟨cd, h1, h2⟩ := T.e_NoProgram.m
  refine PySem.W.exm_ref T.e_WakeError.ec.hs T.e_WakeError.ec.hd T.e_WakeError.ty ?_
  unfold PySem.W.subIn PySem.W.mroIn
  dsimp only
  rw [h1]
  show (if cd.mro.isEmpty = true then none else some (cd.mro.contains (Value.ref c.WakeError))) = _
  rw [h2, show List.isEmpty (Value.ref c.NoProgram :: .ref c.WakeError :: bVE) = false from rfl, if_neg Bool.false_ne_true, has_ref, has_ref, beq_self_eq_true, Bool.true_or, Bool.or_true]
theorem TExc.ec (T : TExc K mg c) {C : Addr} (hC : C = c.WakeError ∨ C ∈ CA c) : ExcC K C := by
  rcases hC with rfl | hC
  · exact T.e_WakeError.ec
  · obtain ⟨x, eC⟩ := T.sub hC
    exact eC.ec
end
/-- what the written part says of a class of errors -/
def ClAt (K : PySem.W.Frag) (x : Str) (C : Addr) (mro : List Value) : Prop := PySem.W.nsIn K mainGlobals x = some (some (.ref C)) ∧ PySem.W.keepIn K (.ref C) = true ∧ PySem.W.excIn K C bVE "ValueError.__new__" = true ∧ ExcC K C ∧
  (∃ cd, PySem.W.clsIn K C = some cd ∧ cd.mro = mro) ∧ PySem.W.typeIn K (.ref C) = some (.type "type")
theorem ClAt.cl {K : PySem.W.Frag} {mg : Str → Option Value} {h : Heap} {x : Str} {C : Addr} {mro : List Value} (c : ClAt K x C mro) (X : K.In h) (G : h.Ns mainGlobals mg) : ECl K mg x C mro :=
  ⟨PySem.W.mg_of X G c.1, c.2.1, c.2.2.1, c.2.2.2.1, c.2.2.2.2.1, c.2.2.2.2.2⟩
theorem ClAt.mk {K : PySem.W.Frag} {x : Str} {C : Addr} {cd : ClassData} {mro : List Value} (z1 : PySem.W.nsIn K mainGlobals x = some (some (.ref C))) (z2 : PySem.W.keepIn K (.ref C) = true) (z3 : PySem.W.excIn K C [.type "ValueError", .type "Exception", .type "BaseException", .type "object"] "ValueError.__new__" = true)
    (y1 : PySem.W.findIn K (.ref C) "__getattribute__" = some (some (.builtin "BaseException.__getattribute__"))) (y2 : PySem.W.findIn K (.ref C) "__getattr__" = some none) (y3 : PySem.W.subIn K (.ref C) (.type "BaseException") = some true) (y4 : PySem.W.hasDictIn K C = true)
    (y5 : PySem.W.findIn K (.ref C) "__class__" = some (some (.builtin "object.__class__"))) (y6 : PySem.W.specialIn K (.builtin "object.__class__") "__get__" = some (some (.builtin "getset_descriptor.__get__"))) (y7 : PySem.W.takesIn K (.builtin "object.__class__") = some true)
    (y8 : PySem.W.mroIn K C (.type "object") = some true) (z4 : PySem.W.clsIn K C = some cd) (z5 : cd.mro = mro) (z6 : PySem.W.typeIn K (.ref C) = some (.type "type")) : ClAt K x C mro :=
  ⟨z1, z2, z3, ⟨y1, y2, y3, y4, y5, y6, y7, y8⟩, ⟨cd, z4, z5⟩, z6⟩
end FW
set_option Elab.async false
set_option linter.all false
set_option maxRecDepth 100000
set_option maxHeartbeats 4000000
namespace FW
open PySem PySem.Spec PyProof.Rows L2
open Evl (pss_cut tCut)
def topS (i : Nat) : Stmt := PySem.Challenge.pw_firstwake_k02_errors_by_hand.main.body.getD i (.Pass ⟨0, 0, 0, 0⟩)
abbrev s__law_open : Stmt := topS 48
abbrev N__law_open : List Str := ["script", "cells", "k", "cell"]
theorem sc__law_open : FnScope N__law_open ["script"] (defScope s__law_open) := ⟨rfl, rfl, rfl, by decide +kernel, rfl, by decide +kernel, by decide +kernel⟩
theorem bi__law_open : BindT "_law_open" s__law_open ["script"] := fun _ _ _ _ _ _ us hl => match us, hl with | [_], _ => rfl

abbrev s__law_spread : Stmt := topS 49
abbrev N__law_spread : List Str := ["cell", "at", "primes", "one", "two", "three"]
theorem sc__law_spread : FnScope N__law_spread ["cell", "at"] (defScope s__law_spread) := ⟨rfl, rfl, rfl, by decide +kernel, rfl, by decide +kernel, by decide +kernel⟩
theorem bi__law_spread : BindT "_law_spread" s__law_spread ["cell", "at"] := fun _ _ _ _ _ _ us hl => match us, hl with | [_, _], _ => rfl

abbrev s__law_take : Stmt := topS 50
abbrev N__law_take : List Str := ["pen", "amount", "at", "cell", "found"]
theorem sc__law_take : FnScope N__law_take ["pen", "amount"] (defScope s__law_take) := ⟨rfl, rfl, rfl, by decide +kernel, rfl, by decide +kernel, by decide +kernel⟩
theorem bi__law_take : BindT "_law_take" s__law_take ["pen", "amount"] := fun _ _ _ _ _ _ us hl => match us, hl with | [_, _], _ => rfl

abbrev s__law_made : Stmt := topS 51
abbrev N__law_made : List Str := ["text", "first", "second"]
theorem sc__law_made : FnScope N__law_made ["text"] (defScope s__law_made) := ⟨rfl, rfl, rfl, by decide +kernel, rfl, by decide +kernel, by decide +kernel⟩
theorem bi__law_made : BindT "_law_made" s__law_made ["text"] := fun _ _ _ _ _ _ us hl => match us, hl with | [_], _ => rfl

abbrev s__law_kinds : Stmt := topS 52
abbrev N__law_kinds : List Str := ["error", "first", "second", "third", "fourth"]
theorem sc__law_kinds : FnScope N__law_kinds ["error"] (defScope s__law_kinds) := ⟨rfl, rfl, rfl, by decide +kernel, rfl, by decide +kernel, by decide +kernel⟩
theorem bi__law_kinds : BindT "_law_kinds" s__law_kinds ["error"] := fun _ _ _ _ _ _ us hl => match us, hl with | [_], _ => rfl

abbrev s_law : Stmt := topS 53
abbrev N_law : List Str := ["script", "pen", "some", "errors", "k", "error", "index", "caught", "e", "base"]
theorem sc_law : FnScope N_law ["script"] (defScope s_law) := ⟨rfl, rfl, rfl, by decide +kernel, rfl, by decide +kernel, by decide +kernel⟩
theorem bi_law : BindT "law" s_law ["script"] := fun _ _ _ _ _ _ us hl => match us, hl with | [_], _ => rfl

abbrev s_is_tuple : Stmt := topS 23
abbrev N_is_tuple : List Str := ["thing", "size"]
theorem sc_is_tuple : FnScope N_is_tuple ["thing", "size"] (defScope s_is_tuple) := ⟨rfl, rfl, rfl, by decide +kernel, rfl, by decide +kernel, by decide +kernel⟩
theorem bi_is_tuple : BindT "is_tuple" s_is_tuple ["thing", "size"] := fun _ _ _ _ _ _ us hl => match us, hl with | [_, _], _ => rfl

abbrev s_is_program : Stmt := topS 34
abbrev N_is_program : List Str := ["thing", "units", "functions", "fields", "unit", "initializers", "codes", "own", "function"]
theorem sc_is_program : FnScope N_is_program ["thing"] (defScope s_is_program) := ⟨rfl, rfl, rfl, by decide +kernel, rfl, by decide +kernel, by decide +kernel⟩
theorem bi_is_program : BindT "is_program" s_is_program ["thing"] := fun _ _ _ _ _ _ us hl => match us, hl with | [_], _ => rfl

abbrev s_need_program : Stmt := topS 36
abbrev N_need_program : List Str := ["program"]
theorem sc_need_program : FnScope N_need_program ["program"] (defScope s_need_program) := ⟨rfl, rfl, rfl, by decide +kernel, rfl, by decide +kernel, by decide +kernel⟩
theorem bi_need_program : BindT "need_program" s_need_program ["program"] := fun _ _ _ _ _ _ us hl => match us, hl with | [_], _ => rfl

abbrev s_accesses : Stmt := topS 35
abbrev N_accesses : List Str := ["program"]
theorem sc_accesses : FnScope N_accesses ["program"] (defScope s_accesses) := ⟨rfl, rfl, rfl, by decide +kernel, rfl, by decide +kernel, by decide +kernel⟩
theorem bi_accesses : BindT "accesses" s_accesses ["program"] := fun _ _ _ _ _ _ us hl => match us, hl with | [_], _ => rfl

end FW
set_option Elab.async false
set_option linter.all false
set_option maxRecDepth 100000
set_option maxHeartbeats 4000000
namespace FW
open PySem PySem.Spec PyProof.Rows L2
open Evl (pss_cut tCut)
/-! ### the pen: _law_open, _law_spread, _law_take -/
structure TPen (K : PySem.W.Frag) (mg : Str → Option Value) : Prop where
  b_list : mg "list" = none
  b_enumerate : mg "enumerate" = none
  b_int : mg "int" = none
  b_len : mg "len" = none
  d_open : Df K mg "_law_open" s__law_open
  d_spread : Df K mg "_law_spread" s__law_spread
  d_take : Df K mg "_law_take" s__law_take
section
variable {P : Program} {w : World} {K : PySem.W.Frag} {mg : Str → Option Value} {base : Heap}
def spOpen (K : PySem.W.Frag) : Sp := fun vs H Q _ => ∃ (a : Addr) (ns : List Int), vs = [.ref a] ∧ SqL K H a (ns.map V.int) ∧ ∀ H' p, Same H H' → H p = none → Pen H' p 0 → Q (.ref p) H'
theorem ok_open (T : TPen K mg) : Ok P w K mg base CX0 1 "_law_open" ["script"] (spOpen K) := by
  refine T.d_open.ok sc__law_open bi__law_open (fun vs H Q E h => ?_) (fun cdv A outer s H f vs Q E hr h => ?_)
  · obtain ⟨a, ns, rfl, _⟩ := h
    rfl
  · obtain ⟨a, ns, rfl, hS, q⟩ := h
    refine ⟨_, (pss_cons (ps_set (i := 1) sc__law_open.nd rfl (Or.inl rfl) (pe_callTy call_list_of (by rfl) T.b_list (by decide +kernel) (pa_cons (pe_slice sl_list (pv 0) po_none (po_some pe_int)) pa_nil)))
    (pss_cons (ps_for PassesOwn.never rfl (pi_enum (by rfl) T.b_enumerate (pa_cons (pe_slice sl_list (pv 0) (po_some pe_int) (po_some pe_int)) pa_nil)) (pg_tup rfl (pgs_cons (pg_name (i := 2) sc__law_open.nd rfl (Or.inl rfl)) (pgs_cons (pg_name (i := 3) sc__law_open.nd rfl (Or.inl rfl)) pgs_nil))) (pss_one (ps_asg (pe_op op_add (pe_ix ix_list (pv 1) (pe_op op_mod (pe_callTy call_int1 (by rfl) T.b_int (by decide +kernel) (pa_cons (pv 2) pa_nil)) pe_int) (fun _ _ => rfl)) (pv 3)) (pg_sub (pv 1) (pe_op op_mod (pe_callTy call_int1 (by rfl) T.b_int (by decide +kernel) (pa_cons (pv 2) pa_nil)) pe_int) set_list))))
    (pss_one (ps_ret (pe_lst (pa_cons (pv 1) (pa_cons pe_int (pa_cons pe_int pa_nil)))))))), ?_⟩
    refine ⟨.ref a, rfl, 12, rfl, a, ns.map V.int, rfl, hS, fun s1 n1 => ?_⟩
    refine ⟨s1, _, rfl, .inl (.inl (.inl upd_same)), fun l nl => ?_⟩
    have m1 : Same H (upd H s1 (.lst (cutV (ns.map V.int) none (some 12)))) := same_new n1
    have m2 : Same H (upd (upd H s1 (.lst (cutV (ns.map V.int) none (some 12)))) l (.lst (cutV (ns.map V.int) none (some 12)))) := Same.new m1 nl
    refine ⟨.ref a, rfl, 12, rfl, 63, rfl, a, ns.map V.int, rfl, m2.seq hS, fun s2 n2 => ?_⟩
    have m3 := Same.new m2 n2 (o := .lst (cutV (ns.map V.int) (some 12) (some 63)))
    have e1 : cutV (ns.map V.int) none (some 12) = (ns.take 12).map V.int := cut_to 12
    obtain ⟨ms, e2⟩ := cut_len (ns := ns) (some 12) (some 63)
    have nls : l ≠ s2 := fun e => by
      rw [e] at n2
      rw [upd_same] at n2
      cases n2
    have fl : H l = none := m1.free nl
    refine ⟨s2, _, rfl, .inl (.inl upd_same), ?_⟩
    refine for_it walk_enum (fun i σ H' => ∃ (cs : List Int) (y2 y3 : Option V), σ = [some (.ref a), some (.ref l), y2, y3] ∧ Same H H' ∧ H' l = some (.lst (cs.map V.int)) ∧ cs.length = (ns.take 12).length ∧ H' s2 = some (.lst (cutV (ns.map V.int) (some 12) (some 63))))
      ⟨ns.take 12, none, none, rfl, m3, ?_, rfl, upd_same⟩ (fun i σ H' _ ⟨cs, y2, y3, _, _, _, _, h5⟩ => .inl (.inl h5)) ?_ ?_
    · rw [upd_ne nls, upd_same, e1]
    · rintro i x σ H' H'' hi ⟨cs, y2, y3, rfl, h2, h3, h4, h5⟩ ⟨T', x1, x2, rfl, nT, rfl, f1, f2⟩
      have ex1 : x1 = .int (i : Nat) := (Option.some.inj f1).symm
      subst ex1
      have f2' : (ms.map V.int)[i]? = some x2 := by rw [← e2]; exact f2
      rw [e2, List.length_map] at hi
      obtain ⟨z, hz⟩ := ints_get hi
      have ex2 : x2 = .int z := Option.some.inj (f2'.symm.trans hz)
      subst ex2
      have h12 : 12 < ns.length := Nat.lt_of_not_le fun hle => by
        have := cut_past (ns := ns) (k := 12) (h := 63) hle
        have e3 : ms.map V.int = [] := e2.symm.trans this
        have : ms = [] := List.map_eq_nil_iff.mp e3
        rw [this] at hi
        exact Nat.not_lt_zero _ hi
      have hcl : cs.length = 12 := by rw [h4, List.length_take]; omega
      have j0 : (0 : Int) ≤ (i : Int) % 12 := Int.emod_nonneg _ (by decide)
      have j1 : (i : Int) % 12 < (cs.length : Int) := by rw [hcl]; exact Int.emod_lt_of_pos _ (by decide)
      obtain ⟨c, _, hc⟩ := ints_at j0 j1
      have nTl : l ≠ T' := ne_of_none h3 nT
      have nTs : s2 ≠ T' := ne_of_none h5 nT
      have h3' : (upd H' T' (.tup [V.int (i : Nat), V.int z])) l = some (.lst (cs.map V.int)) := by rw [upd_ne nTl]; exact h3
      refine ⟨T', _, rfl, .inl (.inl upd_same), rfl, _, _, rfl, _, _, rfl, rfl, ?_⟩
      refine ⟨_, rfl, _, rfl, .inl ⟨(i : Nat), rfl, (i : Nat), 12, rfl, rfl, (by show (0 : Int) < 12; decide), l, _, _, .int c, rfl, rfl, .inl (.inl h3'), hc, ?_⟩⟩
      refine ⟨_, rfl, c, z, rfl, rfl, _, rfl, _, rfl, .inl ⟨(i : Nat), rfl, (i : Nat), 12, rfl, rfl, (by show (0 : Int) < 12; decide), l, _, _, ((i : Int) % 12).toNat, rfl, rfl, h3', ?_, ?_⟩⟩
      · rw [List.length_map]
        exact ixN_in j0 j1
      · refine ⟨cs.set ((i : Int) % 12).toNat (c + z), _, _, rfl, fun b o e => ?_, ?_, ?_, ?_⟩
        · have nb : b ≠ l := ne_of_none e fl
          rw [upd_ne nb]
          exact same_new nT _ _ (h2 _ _ e)
        · rw [upd_same, ints_set]
        · rw [List.length_set]
          exact h4
        · rw [upd_ne (fun e => nls e.symm), upd_ne nTs]
          exact h5
    · rintro σ H' ⟨cs, y2, y3, rfl, h2, h3, h4, h5⟩
      refine ⟨_, rfl, sz_of (by show 3 ≤ 100000; decide), fun p np => ?_⟩
      refine q _ p (Same.new h2 np) (h2.free np) ⟨l, cs, 0, 0, upd_same, ?_, ?_, Int.le_refl _, Int.le_refl _⟩
      · rw [upd_ne (ne_of_none h3 np)]
        exact h3
      · rw [h4, List.length_take]
        omega
def spSpread : Sp := fun vs H Q _ => ∃ (cell at' : Int), vs = [.int cell, .int at'] ∧ 0 ≤ at' ∧ at' ≤ 2147483648 ∧ ∀ z H', Same H H' → Q (.int z) H'
theorem primes_at {j : Int} (h0 : 0 ≤ j) (h1 : j < 13) : ∃ z : Int, atI [V.int 2147483629, .int 2147483587, .int 2147483579, .int 2147483563, .int 2147483549, .int 2147483543, .int 2147483497, .int 2147483489, .int 2147483477, .int 2147483423, .int 2147483399, .int 2147483353, .int 2147483323] j = some (.int z) ∧ 0 < z ∧ z < 2147483648 := by
  obtain ⟨z, hm, hz⟩ := ints_at (ns := [2147483629, 2147483587, 2147483579, 2147483563, 2147483549, 2147483543, 2147483497, 2147483489, 2147483477, 2147483423, 2147483399, 2147483353, 2147483323]) h0 h1
  refine ⟨z, hz, ?_⟩
  simp only [List.mem_cons, List.not_mem_nil, or_false] at hm
  omega
theorem ok_spread (T : TPen K mg) : Ok P w K mg base CX0 1 "_law_spread" ["cell", "at"] spSpread := by
  refine T.d_spread.ok sc__law_spread bi__law_spread (fun vs H Q E h => ?_) (fun cdv A outer s H f vs Q E hr h => ?_)
  · obtain ⟨a, b, rfl, _⟩ := h
    rfl
  · obtain ⟨cell, at', rfl, a0, a1, q⟩ := h
    refine ⟨_, (pss_cons (ps_if (pt_cmpR op_ge (pv 0) (pe_op op_pow pe_int pe_int) (nomark _)) (pss_one (ps_ret (pv 0))) pss_nil)
    (pss_cons (ps_set (i := 2) sc__law_spread.nd rfl (Or.inl rfl) (pe_lst (pa_cons pe_int (pa_cons pe_int (pa_cons pe_int (pa_cons pe_int (pa_cons pe_int (pa_cons pe_int (pa_cons pe_int (pa_cons pe_int pa_nil))))))))))
    (pss_cons (ps_set (i := 2) sc__law_spread.nd rfl (Or.inl rfl) (pe_op op_cat (pv 2) (pe_lst (pa_cons pe_int (pa_cons pe_int (pa_cons pe_int (pa_cons pe_int (pa_cons pe_int pa_nil))))))))
    (pss_cons (ps_set (i := 3) sc__law_spread.nd rfl (Or.inl rfl) (pe_op op_add (pe_op op_add (pe_op op_mul (pe_op op_mod (pe_callTy call_int1 (by rfl) T.b_int (by decide +kernel) (pa_cons (pv 0) pa_nil)) pe_int) (pe_op op_add (pe_op op_mul pe_int (pv 1)) pe_int)) (pe_op op_mul (pv 1) pe_int)) pe_int))
    (pss_cons (ps_set (i := 3) sc__law_spread.nd rfl (Or.inl rfl) (pe_op op_mod (pe_callTy call_int1 (by rfl) T.b_int (by decide +kernel) (pa_cons (pe_op op_pow (pv 3) pe_int) pa_nil)) (pe_ix ix_list (pv 2) (pe_op op_mod (pe_callTy call_int1 (by rfl) T.b_int (by decide +kernel) (pa_cons (pv 1) pa_nil)) pe_int) (fun _ _ => rfl))))
    (pss_cons (ps_set (i := 4) sc__law_spread.nd rfl (Or.inl rfl) (pe_op op_mod (pe_callTy call_int1 (by rfl) T.b_int (by decide +kernel) (pa_cons (pe_op op_pow (pe_op op_add (pe_op op_add (pe_op op_mul (pv 3) (pe_op op_add (pv 1) pe_int)) (pe_op op_mod (pe_callTy call_int1 (by rfl) T.b_int (by decide +kernel) (pa_cons (pv 0) pa_nil)) pe_int)) pe_int) pe_int) pa_nil)) (pe_ix ix_list (pv 2) (pe_op op_mod (pe_callTy call_int1 (by rfl) T.b_int (by decide +kernel) (pa_cons (pe_op op_add (pv 1) pe_int) pa_nil)) pe_int) (fun _ _ => rfl))))
    (pss_cons (ps_set (i := 5) sc__law_spread.nd rfl (Or.inl rfl) (pe_op op_mod (pe_callTy call_int1 (by rfl) T.b_int (by decide +kernel) (pa_cons (pe_op op_pow (pe_op op_add (pe_op op_add (pv 4) (pe_op op_mod (pe_callTy call_int1 (by rfl) T.b_int (by decide +kernel) (pa_cons (pv 3) pa_nil)) pe_int)) (pv 1)) pe_int) pa_nil)) (pe_ix ix_list (pv 2) (pe_op op_mod (pe_callTy call_int1 (by rfl) T.b_int (by decide +kernel) (pa_cons (pe_op op_add (pv 1) pe_int) pa_nil)) pe_int) (fun _ _ => rfl))))
    (pss_one (ps_ret (pe_op op_add (pe_op op_mul (pe_op op_add (pe_op op_mul (pv 3) pe_int) (pv 4)) pe_int) (pv 5))))))))))), ?_⟩
    refine ⟨_, rfl, 10, 18, rfl, rfl, ⟨by decide, by decide, by decide⟩, cell, _, rfl, rfl, _, rfl, ite2 (fun _ => ?_) (fun _ => ?_)⟩
    · exact ⟨_, rfl, q cell H (Same.refl _)⟩
    refine ⟨sz_of (by show 8 ≤ 100000; decide), fun l1 n1 => ?_⟩
    refine ⟨_, rfl, sz_of (by show 5 ≤ 100000; decide), fun l2 n2 => ?_⟩
    have n12 : l1 ≠ l2 := fun e => by
      rw [e] at n2
      rw [upd_same] at n2
      cases n2
    refine ⟨l1, l2, _, _, rfl, rfl, (by rw [upd_ne n12]; exact upd_same), upd_same, sz_of (by show 13 ≤ 100000; decide), fun l3 n3 => ?_⟩
    have m3 := fun (o : HO) => Same.new (Same.new (same_new n1) n2) n3 (o := o)
    -- one
    have c0 : 0 ≤ cell % 1000000007 := Int.emod_nonneg _ (by decide)
    have c1 : cell % 1000000007 < 1000000007 := Int.emod_lt_of_pos _ (by decide)
    have d0 : 0 ≤ cell % 65537 := Int.emod_nonneg _ (by decide)
    have d1 : cell % 65537 < 65537 := Int.emod_lt_of_pos _ (by decide)
    refine ⟨_, rfl, .inl ⟨cell, rfl, cell, 1000000007, rfl, rfl, (by show (0 : Int) < 1000000007; decide), ?_⟩⟩
    refine ⟨_, rfl, 2, at', rfl, rfl, .inl ⟨by decide, by decide⟩, _, 69069, rfl, rfl, _, _, rfl, rfl, .inl ⟨by omega, by omega⟩, ?_⟩
    refine ⟨_, rfl, at', 40503, rfl, rfl, .inr ⟨by decide, by decide⟩, _, _, rfl, rfl, _, 977, rfl, rfl, ?_⟩
    have k1 : 0 ≤ cell % 1000000007 * (2 * at' + 69069) := Int.mul_nonneg c0 (by omega)
    have k2 : cell % 1000000007 * (2 * at' + 69069) ≤ 1000000007 * (2 * 2147483648 + 69069) := Int.mul_le_mul (by omega) (by omega) (by omega) (by decide)
    dsimp only
    generalize cell % 1000000007 * (2 * at' + 69069) = u1 at k1 k2 ⊢
    -- one again
    have i0 : (0 : Int) ≤ at' % 13 := Int.emod_nonneg _ (by decide)
    have i1 : at' % 13 < 13 := Int.emod_lt_of_pos _ (by decide)
    obtain ⟨p1, hp1, pa, pb⟩ := primes_at i0 i1
    refine ⟨_, rfl, _, 3, rfl, rfl, ⟨by decide, by decide, by omega⟩, .inl ⟨_, rfl, ?_⟩⟩
    refine ⟨_, rfl, _, rfl, .inl ⟨_, rfl, at', 13, rfl, rfl, (by show (0 : Int) < 13; decide), l3, _, _, _, rfl, rfl, .inl (.inl upd_same), hp1, _, p1, rfl, rfl, pa, ?_⟩⟩
    dsimp only
    generalize ((u1 + at' * 40503 + 977) ^ ((3 : Int).toNat)) = u2
    have o0 : 0 ≤ u2 % p1 := Int.emod_nonneg _ (by omega)
    have o1 : u2 % p1 < 2147483648 := Int.lt_trans (Int.emod_lt_of_pos _ pa) pb
    generalize u2 % p1 = one at o0 o1 ⊢
    -- two
    have j0 : (0 : Int) ≤ (at' + 5) % 13 := Int.emod_nonneg _ (by decide)
    have j1 : (at' + 5) % 13 < 13 := Int.emod_lt_of_pos _ (by decide)
    obtain ⟨p2, hp2, pc, pd⟩ := primes_at j0 j1
    have t1 : 0 ≤ one * (at' + 3) := Int.mul_nonneg o0 (by omega)
    have t2 : one * (at' + 3) ≤ 2147483648 * (2147483648 + 3) := Int.mul_le_mul (by omega) (by omega) (by omega) (by decide)
    refine ⟨_, rfl, _, rfl, at', 3, rfl, rfl, one, _, rfl, rfl, .inl ⟨by omega, by omega⟩, ?_⟩
    refine ⟨_, rfl, .inl ⟨cell, rfl, cell, 65537, rfl, rfl, (by show (0 : Int) < 65537; decide), _, _, rfl, rfl, _, 5, rfl, rfl, _, 5, rfl, rfl, ⟨by decide, by decide, ?_⟩, .inl ⟨_, rfl, ?_⟩⟩⟩
    · generalize one * (at' + 3) = u3 at t1 t2 ⊢
      omega
    refine ⟨_, rfl, _, rfl, at', 5, rfl, rfl, .inl ⟨_, rfl, _, 13, rfl, rfl, (by show (0 : Int) < 13; decide), l3, _, _, _, rfl, rfl, .inl (.inl upd_same), hp2, _, p2, rfl, rfl, pc, ?_⟩⟩
    dsimp only
    generalize ((one * (at' + 3) + cell % 65537 + 5) ^ ((5 : Int).toNat)) = u4
    have w0 : 0 ≤ u4 % p2 := Int.emod_nonneg _ (by omega)
    have w1 : u4 % p2 < 2147483648 := Int.lt_trans (Int.emod_lt_of_pos _ pc) pd
    generalize u4 % p2 = two at w0 w1 ⊢
    -- three
    have g0 : (0 : Int) ≤ (at' + 7) % 13 := Int.emod_nonneg _ (by decide)
    have g1 : (at' + 7) % 13 < 13 := Int.emod_lt_of_pos _ (by decide)
    obtain ⟨p3, hp3, pe, pf⟩ := primes_at g0 g1
    have r0 : 0 ≤ one % 1009 := Int.emod_nonneg _ (by decide)
    have r1 : one % 1009 < 1009 := Int.emod_lt_of_pos _ (by decide)
    refine ⟨_, rfl, _, rfl, .inl ⟨one, rfl, one, 1009, rfl, rfl, (by show (0 : Int) < 1009; decide), two, _, rfl, rfl, _, rfl, _, at', rfl, rfl, _, 3, rfl, rfl, ⟨by decide, by decide, by omega⟩, .inl ⟨_, rfl, ?_⟩⟩⟩
    refine ⟨_, rfl, _, rfl, at', 7, rfl, rfl, .inl ⟨_, rfl, _, 13, rfl, rfl, (by show (0 : Int) < 13; decide), l3, _, _, _, rfl, rfl, .inl (.inl upd_same), hp3, _, p3, rfl, rfl, pe, ?_⟩⟩
    dsimp only
    generalize ((two + one % 1009 + at') ^ ((3 : Int).toNat)) = u5
    generalize u5 % p3 = three
    refine ⟨_, rfl, one, 2147483647, rfl, rfl, .inr ⟨by decide, by decide⟩, _, rfl, _, two, rfl, rfl, _, 2147483647, rfl, rfl, .inr ⟨by decide, by decide⟩, _, rfl, _, three, rfl, rfl, ?_⟩
    exact q _ _ (m3 _)
/-- _law_take(pen, amount) -/
def spTake : Sp := fun vs H Q _ => ∃ (p : Addr) (n : Int) (B : Nat), vs = [.ref p, .int n] ∧ Pen H p B ∧ B ≤ 1000000000 ∧ 0 < n ∧ n < 1073741824 ∧
  ∀ H' r, Same (off H p) (off H' p) → Pen H' p (B + 1) → 0 ≤ r → r < n → Q (.int r) H'
theorem ok_take (T : TPen K mg) : Ok P w K mg base CX0 2 "_law_take" ["pen", "amount"] spTake := by
  have G__law_spread : Ok P w K mg base CX0 1 "_law_spread" ["cell", "at"] spSpread := ok_spread T
  refine T.d_take.ok sc__law_take bi__law_take (fun vs H Q E h => ?_) (fun cdv A outer s H f vs Q E hr h => ?_)
  · obtain ⟨p, n, B, rfl, _⟩ := h
    rfl
  · obtain ⟨p, n, B, rfl, ⟨c, cs, at', r, hp, hc, hcl, a0, a1⟩, hB, n0, n1, q⟩ := h
    have ncp : c ≠ p := pen_ne hp hc
    have g0 : ∀ z : Int, atI [V.ref c, .int at', .int z] 0 = some (.ref c) := fun z => rfl
    refine ⟨_, (pss_cut (ps_if (pt_cmpR op_lt (pe_ix ix_list (pv 0) pe_int (fun _ _ => rfl)) (pv 1) (nomark _)) (pss_cons (ps_set (i := 2) sc__law_take.nd rfl (Or.inl rfl) (pe_ix ix_list (pv 0) pe_int (fun _ _ => rfl)))
    (pss_cons (ps_set (i := 3) sc__law_take.nd rfl (Or.inl rfl) pe_int)
    (pss_cut (ps_if (pt_cmpR op_lt (pv 2) (pe_callB call_len_seq (by rfl) T.b_len (by decide +kernel) (pa_cons (pe_ix ix_list (pv 0) pe_int (fun _ _ => rfl)) pa_nil)) (nomark _)) (pss_one (ps_set (i := 3) sc__law_take.nd rfl (Or.inl rfl) (pe_ix ix_list (pe_ix ix_list (pv 0) pe_int (fun _ _ => rfl)) (pv 2) (fun _ _ => rfl)))) (pss_one (ps_if (pt_cmpR op_gt (pe_callB call_len_seq (by rfl) T.b_len (by decide +kernel) (pa_cons (pe_ix ix_list (pv 0) pe_int (fun _ _ => rfl)) pa_nil)) pe_int (nomark _)) (pss_one (ps_set (i := 3) sc__law_take.nd rfl (Or.inl rfl) (pe_op op_mod (pe_callTy call_int1 (by rfl) T.b_int (by decide +kernel) (pa_cons (pe_ix ix_list (pe_ix ix_list (pv 0) pe_int (fun _ _ => rfl)) (pe_op op_mod (pe_callTy call_int1 (by rfl) T.b_int (by decide +kernel) (pa_cons (pe_op op_add (pe_op op_mul (pv 2) pe_int) pe_int) pa_nil)) (pe_callB call_len_seq (by rfl) T.b_len (by decide +kernel) (pa_cons (pe_ix ix_list (pv 0) pe_int (fun _ _ => rfl)) pa_nil))) (fun _ _ => rfl)) pa_nil)) (pe_op op_add (pe_op op_pow pe_int pe_int) (pv 2))))) pss_nil)))
    (pss_cons (ps_asg (pe_op op_add (pv 2) pe_int) (pg_sub (pv 0) pe_int set_list))
    (pss_one (ps_asg (pe_callO G__law_spread (hr.mono (by decide)) (pa_cons (pv 3) (pa_cons (pv 2) pa_nil))) (pg_sub (pv 0) pe_int set_list))))))) pss_nil)
    (pss_cons (ps_set (i := 4) sc__law_take.nd rfl (Or.inl rfl) (pe_op op_mod (pe_callTy call_int1 (by rfl) T.b_int (by decide +kernel) (pa_cons (pe_ix ix_list (pv 0) pe_int (fun _ _ => rfl)) pa_nil)) (pv 1)))
    (pss_cons (ps_asg (pe_op op_fdiv (pe_ix ix_list (pv 0) pe_int (fun _ _ => rfl)) (pv 1)) (pg_sub (pv 0) pe_int set_list))
    (pss_one (ps_ret (pv 4)))))), ?_⟩
    -- behind the first if: the pen with a rest
    refine ⟨fun σ' H' => ∃ (y2 y3 : Option V) (a2 r2 : Int), σ' = [some (.ref p), some (.int n), y2, y3, none] ∧ Same (off H p) (off H' p) ∧ H' p = some (.lst [.ref c, .int a2, .int r2]) ∧ H' c = some (.lst (cs.map V.int)) ∧ 0 ≤ a2 ∧ a2 ≤ (B : Int) + 1, ?_, ?_⟩
    · refine ⟨_, rfl, p, _, 2, _, rfl, rfl, .inl (.inl hp), rfl, _, rfl, r, n, rfl, rfl, _, rfl, ite2 (fun _ => ?_) (fun _ => ?_)⟩
      · -- at = pen[1]; cell = 0
        refine ⟨_, rfl, p, _, 1, _, rfl, rfl, .inl (.inl hp), rfl, ?_⟩
        -- cell
        refine ⟨fun σ' H' => H' = H ∧ ∃ z : Int, σ' = [some (.ref p), some (.int n), some (.int at'), some (.int z), none], ?_, ?_⟩
        · refine ⟨_, rfl, _, rfl, p, _, 0, _, rfl, rfl, .inl (.inl hp), rfl, c, _, rfl, .inl (.inl (.inl hc)), at', _, rfl, rfl, _, rfl, ite2 (fun hlt => ?_) (fun hge => ?_)⟩
          · have hlt := of_decide_eq_true hlt
            rw [List.length_map] at hlt
            obtain ⟨z, _, hz⟩ := ints_at a0 hlt
            exact ⟨_, rfl, p, _, 0, _, rfl, rfl, .inl (.inl hp), rfl, _, rfl, c, _, at', _, rfl, rfl, .inl (.inl hc), hz, rfl, z, rfl⟩
          · refine ⟨_, rfl, p, _, 0, _, rfl, rfl, .inl (.inl hp), rfl, c, _, rfl, .inl (.inl (.inl hc)), _, 0, rfl, rfl, _, rfl, ite2 (fun hgt => ?_) (fun hng => ?_)⟩
            · have hgt := of_decide_eq_true hgt
              rw [List.length_map] at hgt
              have i0 : (0 : Int) ≤ (at' * 5 + 3) % (cs.length : Int) := Int.emod_nonneg _ (by omega)
              have i1 : (at' * 5 + 3) % (cs.length : Int) < (cs.length : Int) := Int.emod_lt_of_pos _ hgt
              obtain ⟨z, _, hz⟩ := ints_at i0 i1
              refine ⟨_, rfl, p, _, 0, _, rfl, rfl, .inl (.inl hp), rfl, _, rfl, at', 5, rfl, rfl, .inr ⟨by decide, by decide⟩, _, 3, rfl, rfl, .inl ⟨_, rfl, ?_⟩⟩
              refine ⟨_, rfl, p, _, 0, _, rfl, rfl, .inl (.inl hp), rfl, c, _, rfl, .inl (.inl (.inl hc)), _, _, rfl, rfl, ?_, c, _, _, _, rfl, rfl, .inl (.inl hc), ?_, .inl ⟨z, rfl, 10, 17, rfl, rfl, ⟨by decide, by decide, by decide⟩, _, rfl, _, at', rfl, rfl, z, _, rfl, rfl, ?_, rfl, _, rfl⟩⟩
              · show (0 : Int) < ((cs.map V.int).length : Int)
                rw [List.length_map]
                exact hgt
              · rw [List.length_map]
                exact hz
              · show (0 : Int) < 10 ^ ((17 : Int).toNat) + at'
                have : (0 : Int) < 10 ^ ((17 : Int).toNat) := by decide
                omega
            · exact ⟨rfl, 0, rfl⟩
        · rintro σ' H' ⟨rfl, z, rfl⟩
          -- pen[1] = at + 1
          refine ⟨_, rfl, at', 1, rfl, rfl, _, rfl, p, _, 1, 1, rfl, rfl, hp, rfl, ?_⟩
          -- pen[2] = _law_spread(cell, at)
          refine ⟨_, rfl, _, rfl, z, at', rfl, a0, by omega, fun z2 H2 s2 => ?_⟩
          have hp2 : H2 p = some (.lst [.ref c, .int (at' + 1), .int r]) := s2 _ _ upd_same
          have hc2 : H2 c = some (.lst (cs.map V.int)) := s2 _ _ (by rw [upd_ne ncp]; exact hc)
          refine ⟨_, rfl, p, _, 2, 2, rfl, rfl, hp2, rfl, some (.int at'), some (.int z), at' + 1, z2, rfl, ?_, upd_same, ?_, by omega, by omega⟩
          · refine off_upd fun b o e => ?_
            have hb : b ≠ p := fun z => by
              subst z
              rw [off_same] at e
              cases e
            rw [off_ne hb] at e ⊢
            exact s2 _ _ (by rw [upd_ne hb]; exact e)
          · rw [upd_ne ncp]
            exact hc2
      · exact ⟨none, none, at', r, rfl, Same.refl _, hp, hc, a0, by omega⟩
    · rintro σ' H' ⟨y2, y3, a2, r2, rfl, hs, hp', hc', b0, b1⟩
      have f0 : 0 ≤ r2 % n := Int.emod_nonneg _ (by omega)
      have f1 : r2 % n < n := Int.emod_lt_of_pos _ n0
      -- found = int(pen[2]) % amount; pen[2] = pen[2] // amount; return found
      refine ⟨_, rfl, p, _, 2, _, rfl, rfl, .inl (.inl hp'), rfl, .inl ⟨r2, rfl, _, rfl, r2, n, rfl, rfl, n0, ?_⟩⟩
      refine ⟨_, rfl, p, _, 2, _, rfl, rfl, .inl (.inl hp'), rfl, _, rfl, r2, n, rfl, rfl, ⟨n0, n1⟩, _, rfl, p, _, 2, 2, rfl, rfl, hp', rfl, ?_⟩
      refine ⟨_, rfl, q _ _ (off_upd hs) ⟨c, cs, a2, r2 / n, upd_same, ?_, hcl, b0, by omega⟩ f0 f1⟩
      rw [upd_ne ncp]
      exact hc'
end
end FW
set_option Elab.async false
set_option linter.all false
set_option maxRecDepth 100000
set_option maxHeartbeats 4000000
namespace FW
open PySem PySem.Spec PyProof.Rows L2
open Evl (pss_cut tCut)
open Evl (Ex Ev EvA EvL ev_var ev_c ea_nil ea_cons el_lst ev_cb RC q_asgL s_retL fresh_back el_lcR1 EvT)
structure T02 (K : PySem.W.Frag) (mg : Str → Option Value) (c : Cs) : Prop extends TPen K mg, TExc K mg c where
  b_isinstance : mg "isinstance" = none
  b_tuple : mg "tuple" = none
  b_ValueError : mg "ValueError" = none
  b_range : mg "range" = none
  d_made : Df K mg "_law_made" s__law_made
  d_kinds : Df K mg "_law_kinds" s__law_kinds
  d_law : Df K mg "law" s_law
  d_is_tuple : Df K mg "is_tuple" s_is_tuple
  d_is_program : Df K mg "is_program" s_is_program
  d_need : Df K mg "need_program" s_need_program
  d_accesses : Df K mg "accesses" s_accesses
section
variable {P : Program} {w : World} {K : PySem.W.Frag} {mg : Str → Option Value} {base : Heap} {c : Cs}
/-! ### accesses(None) raises NoProgram -/
def spTup0 : Sp := fun vs H Q _ => vs = [.non, .int 2] ∧ Q (.bl false) H
theorem ok_is_tuple (T : T02 K mg c) : Ok P w K mg base CX0 1 "is_tuple" ["thing", "size"] spTup0 := by
  refine T.d_is_tuple.ok sc_is_tuple bi_is_tuple (fun vs H Q E h => ?_) (fun cdv A outer s H f vs Q E hr h => ?_)
  · obtain ⟨rfl, _⟩ := h
    rfl
  · obtain ⟨rfl, q⟩ := h
    refine ⟨_, (pss_one (ps_ret (pe_and (pe_callB call_isi (by rfl) T.b_isinstance (by decide +kernel) (pa_cons (pv 0) (pa_cons (pe_bltn (by rfl) T.b_tuple (by decide +kernel) (v := .ty "tuple") rfl) pa_nil))) (pe_one (pe_cmpR op_eq (pe_callB call_len_seq (by rfl) T.b_len (by decide +kernel) (pa_cons (pv 0) pa_nil)) (pv 1) (nomark _)))))), ?_⟩
    exact ⟨_, rfl, .non, .ty "tuple", .type "NoneType", .type "tuple", false, rfl, .ty _, .base .non, kit_ty (by decide +kernel), false, rfl, q⟩
def spProg0 : Sp := fun vs H Q _ => vs = [.non] ∧ Q (.bl false) H
theorem ok_is_program (T : T02 K mg c) : Ok P w K mg base CX0 2 "is_program" ["thing"] spProg0 := by
  have G_is_tuple : Ok P w K mg base CX0 1 "is_tuple" ["thing", "size"] spTup0 := ok_is_tuple T
  refine T.d_is_program.ok sc_is_program bi_is_program (fun vs H Q E h => ?_) (fun cdv A outer s H f vs Q E hr h => ?_)
  · obtain ⟨rfl, _⟩ := h
    rfl
  · obtain ⟨rfl, q⟩ := h
    refine ⟨_, pss_cons (ps_if (pt_not (pt_val (pe_callO G_is_tuple (hr.mono (by decide)) (pa_cons (pv 0) (pa_cons pe_int pa_nil))))) (pss_one (ps_ret pe_bl)) pss_nil) pss_never, ?_⟩
    exact ⟨_, rfl, rfl, false, rfl, q⟩
def spNeed0 (c : Cs) : Sp := fun vs H _ E => vs = [.non] ∧ E (.ref c.NoProgram) none H
theorem ok_need (T : T02 K mg c) : Ok P w K mg base (L2.CX P w) 3 "need_program" ["program"] (spNeed0 c) := by
  have G_is_program : Ok P w K mg base CX0 2 "is_program" ["thing"] spProg0 := ok_is_program T
  refine T.d_need.okX sc_need_program bi_need_program (fun vs H Q E h => ?_) (fun cdv A outer s H f vs Q E hr h => ?_)
  · obtain ⟨rfl, _⟩ := h
    rfl
  · obtain ⟨rfl, q⟩ := h
    refine ⟨_, pss_one (ps_if (pt_not (pt_val (pe_callO G_is_program (hr.mono (by decide)) (pa_cons (pv 0) pa_nil))))
      (pss_one (ps_raise rfl (takes_of rfl rfl rfl rfl) (pmk_own PySem.F.excBase_ValueError T.e_NoProgram.xx T.e_NoProgram.g T.e_NoProgram.k (raises_own T.e_NoProgram.ec.hs T.e_NoProgram.ty) rfl))) pss_nil), ?_⟩
    exact ⟨_, rfl, rfl, false, rfl, q⟩
def spAcc0 (c : Cs) : Sp := fun vs H _ E => vs = [.non] ∧ E (.ref c.NoProgram) none H
theorem ok_accesses (T : T02 K mg c) : Ok P w K mg base (L2.CX P w) 4 "accesses" ["program"] (spAcc0 c) := by
  have G_need : Ok P w K mg base (L2.CX P w) 3 "need_program" ["program"] (spNeed0 c) := ok_need T
  refine T.d_accesses.okX sc_accesses bi_accesses (fun vs H Q E h => ?_) (fun cdv A outer s H f vs Q E hr h => ?_)
  · obtain ⟨rfl, _⟩ := h
    rfl
  · obtain ⟨rfl, q⟩ := h
    refine ⟨_, pss_cons (ps_expr (pe_callOX G_need (hr.mono (by decide)) (takes_of rfl rfl rfl rfl) (pa_cons (pv 0) pa_nil))) pss_never, ?_⟩
    exact ⟨_, rfl, rfl, q⟩
/-! ### the law's own helpers -/
def spMade (c : Cs) : Sp := fun vs H Q _ => ∃ t : Str, vs = [.str t] ∧ ∀ H' p us, Same H H' → H p = none → H' p = some (.lst us) → Exs H' us (CA c) → Q (.ref p) H'
theorem ok_made (T : T02 K mg c) : Ok P w K mg base CX0 1 "_law_made" ["text"] (spMade c) := by
  refine T.d_made.ok sc__law_made bi__law_made (fun vs H Q E h => ?_) (fun cdv A outer s H f vs Q E hr h => ?_)
  · obtain ⟨t, rfl, _⟩ := h
    rfl
  · obtain ⟨t, rfl, q⟩ := h
    refine ⟨_, (pss_cons (ps_set (i := 1) sc__law_made.nd rfl (Or.inl rfl) (pe_lst (pa_cons (pe_exc1 PySem.F.excBase_ValueError T.e_NoProgram.xx T.e_NoProgram.g T.e_NoProgram.k (by rfl) (pv 0)) (pa_cons (pe_exc1 PySem.F.excBase_ValueError T.e_NoInputs.xx T.e_NoInputs.g T.e_NoInputs.k (by rfl) (pv 0)) (pa_cons (pe_exc1 PySem.F.excBase_ValueError T.e_NoPlan.xx T.e_NoPlan.g T.e_NoPlan.k (by rfl) (pv 0)) (pa_cons (pe_exc1 PySem.F.excBase_ValueError T.e_NoOrder.xx T.e_NoOrder.g T.e_NoOrder.k (by rfl) (pv 0)) (pa_cons (pe_exc1 PySem.F.excBase_ValueError T.e_NoAccess.xx T.e_NoAccess.g T.e_NoAccess.k (by rfl) (pv 0)) (pa_cons (pe_exc1 PySem.F.excBase_ValueError T.e_NoUnit.xx T.e_NoUnit.g T.e_NoUnit.k (by rfl) (pv 0)) pa_nil))))))))
    (pss_cons (ps_set (i := 2) sc__law_made.nd rfl (Or.inl rfl) (pe_lst (pa_cons (pe_exc1 PySem.F.excBase_ValueError T.e_NoFunction.xx T.e_NoFunction.g T.e_NoFunction.k (by rfl) (pv 0)) (pa_cons (pe_exc1 PySem.F.excBase_ValueError T.e_NoPrices.xx T.e_NoPrices.g T.e_NoPrices.k (by rfl) (pv 0)) (pa_cons (pe_exc1 PySem.F.excBase_ValueError T.e_NoPlaces.xx T.e_NoPlaces.g T.e_NoPlaces.k (by rfl) (pv 0)) (pa_cons (pe_exc1 PySem.F.excBase_ValueError T.e_NoNumber.xx T.e_NoNumber.g T.e_NoNumber.k (by rfl) (pv 0)) (pa_cons (pe_exc1 PySem.F.excBase_ValueError T.e_NoStarts.xx T.e_NoStarts.g T.e_NoStarts.k (by rfl) (pv 0)) (pa_cons (pe_exc1 PySem.F.excBase_ValueError T.e_NoState.xx T.e_NoState.g T.e_NoState.k (by rfl) (pv 0)) pa_nil))))))))
    (pss_cons (ps_set (i := 2) sc__law_made.nd rfl (Or.inl rfl) (pe_op op_cat (pv 2) (pe_lst (pa_cons (pe_exc1 PySem.F.excBase_ValueError T.e_NoMove.xx T.e_NoMove.g T.e_NoMove.k (by rfl) (pv 0)) (pa_cons (pe_exc1 PySem.F.excBase_ValueError T.e_NoRoom.xx T.e_NoRoom.g T.e_NoRoom.k (by rfl) (pv 0)) pa_nil)))))
    (pss_one (ps_ret (pe_op op_cat (pe_op op_cat (pv 1) (pv 2)) (pe_lst (pa_cons (pe_exc1 PySem.F.excBase_ValueError T.e_TooLong.xx T.e_TooLong.g T.e_TooLong.k (by rfl) (pv 0)) (pa_cons (pe_exc1 PySem.F.excBase_ValueError T.e_TooMany.xx T.e_TooMany.g T.e_TooMany.k (by rfl) (pv 0)) pa_nil))))))))), ?_⟩
    have v0 : ∀ (y1 y2 : Option V) (H : Hp), Ev (tVar 0) [some (.str t), y1, y2] H (.str t) := fun _ _ _ => ev_var rfl
    refine q_asgX (elx_lst (eax_cons (v0 _ _ _) (eax_cons (v0 _ _ _) (eax_cons (v0 _ _ _) (eax_cons (v0 _ _ _) (eax_cons (v0 _ _ _) (eax_cons (v0 _ _ _) eax_nil)))))) (by show 6 ≤ 100000; decide)) fun p1 u1 H1 e1 h1 x1 => ?_
    refine q_asgX (elx_lst (eax_cons (v0 _ _ _) (eax_cons (v0 _ _ _) (eax_cons (v0 _ _ _) (eax_cons (v0 _ _ _) (eax_cons (v0 _ _ _) (eax_cons (v0 _ _ _) eax_nil)))))) (by show 6 ≤ 100000; decide)) fun p2 u2 H2 e2 h2 x2 => ?_
    refine q_asgX (elx_cat (elxw_var rfl h2 x2) (elxw_new (elx_lst (eax_cons (v0 _ _ _) (eax_cons (v0 _ _ _) eax_nil)) (by show 2 ≤ 100000; decide))) (by show 6 + 2 ≤ 100000; decide)) fun p3 u3 H3 e3 h3 x3 => ?_
    refine (elx_cat (elxw_new (elx_cat (elxw_var rfl (e3 _ _ (e2 _ _ h1)) ((x1.same e2).same e3)) (elxw_var rfl h3 x3) (by show 6 + 8 ≤ 100000; decide))) (elxw_new (elx_lst (eax_cons (v0 _ _ _) (eax_cons (v0 _ _ _) eax_nil)) (by show 2 ≤ 100000; decide))) (by show 14 + 2 ≤ 100000; decide)) H3 (Evl.Ex.refl _) _ fun p u H4 np e4 h4 x4 => ?_
    exact q H4 p u (((e1.trans e2).trans e3).trans e4) (fresh_back ((e1.trans e2).trans e3) np) h4 x4
/-- what _law_kinds gives of an error of the class at C -/
def kindsV (c : Cs) (C : Addr) : List V := (CA c).map fun D => .bl (decide (C = D))
def spKinds (c : Cs) : Sp := fun vs H Q _ => ∃ a C : Addr, vs = [.ref a] ∧ (C = c.WakeError ∨ C ∈ CA c) ∧ IsEx H a C ∧ ∀ H' p, Same H H' → H p = none → H' p = some (.lst (kindsV c C)) → Q (.ref p) H'
theorem ev_isx {σ : L2.St} {H : Hp} {i : Nat} {a C D : Addr} (T : T02 K mg c) (hi : σ[i]? = some (some (.ref a))) (x : IsEx H a C) (hC : C = c.WakeError ∨ C ∈ CA c) (hD : D ∈ CA c) :
    Ev (tCB (rIsX K) (tCons (tVar i) (tCons (tC (.ref D)) tNil))) σ H (.bl (decide (C = D))) :=
  ev_cb (ea_cons (ev_var hi) (ea_cons ev_c ea_nil)) fun H1 e Q q => ⟨a, C, .ref D, .ref D, _, rfl, x.same e, T.ec hC, .own D, T.kind hC hD, q H1 (Evl.Ex.refl _)⟩
theorem ok_kinds (T : T02 K mg c) : Ok P w K mg base CX0 1 "_law_kinds" ["error"] (spKinds c) := by
  refine T.d_kinds.ok sc__law_kinds bi__law_kinds (fun vs H Q E h => ?_) (fun cdv A outer s H f vs Q E hr h => ?_)
  · obtain ⟨a, C, rfl, _⟩ := h
    rfl
  · obtain ⟨a, C, rfl, hC, x, q⟩ := h
    refine ⟨_, (pss_cons (ps_set (i := 1) sc__law_kinds.nd rfl (Or.inl rfl) (pe_lst (pa_cons (pe_callB call_isX (by rfl) T.b_isinstance (by decide +kernel) (pa_cons (pv 0) (pa_cons (pe_refg T.e_NoProgram.g) pa_nil))) (pa_cons (pe_callB call_isX (by rfl) T.b_isinstance (by decide +kernel) (pa_cons (pv 0) (pa_cons (pe_refg T.e_NoInputs.g) pa_nil))) (pa_cons (pe_callB call_isX (by rfl) T.b_isinstance (by decide +kernel) (pa_cons (pv 0) (pa_cons (pe_refg T.e_NoPlan.g) pa_nil))) pa_nil)))))
    (pss_cons (ps_set (i := 1) sc__law_kinds.nd rfl (Or.inl rfl) (pe_op op_cat (pv 1) (pe_lst (pa_cons (pe_callB call_isX (by rfl) T.b_isinstance (by decide +kernel) (pa_cons (pv 0) (pa_cons (pe_refg T.e_NoOrder.g) pa_nil))) pa_nil))))
    (pss_cons (ps_set (i := 2) sc__law_kinds.nd rfl (Or.inl rfl) (pe_lst (pa_cons (pe_callB call_isX (by rfl) T.b_isinstance (by decide +kernel) (pa_cons (pv 0) (pa_cons (pe_refg T.e_NoAccess.g) pa_nil))) (pa_cons (pe_callB call_isX (by rfl) T.b_isinstance (by decide +kernel) (pa_cons (pv 0) (pa_cons (pe_refg T.e_NoUnit.g) pa_nil))) (pa_cons (pe_callB call_isX (by rfl) T.b_isinstance (by decide +kernel) (pa_cons (pv 0) (pa_cons (pe_refg T.e_NoFunction.g) pa_nil))) pa_nil)))))
    (pss_cons (ps_set (i := 3) sc__law_kinds.nd rfl (Or.inl rfl) (pe_lst (pa_cons (pe_callB call_isX (by rfl) T.b_isinstance (by decide +kernel) (pa_cons (pv 0) (pa_cons (pe_refg T.e_NoPrices.g) pa_nil))) (pa_cons (pe_callB call_isX (by rfl) T.b_isinstance (by decide +kernel) (pa_cons (pv 0) (pa_cons (pe_refg T.e_NoPlaces.g) pa_nil))) (pa_cons (pe_callB call_isX (by rfl) T.b_isinstance (by decide +kernel) (pa_cons (pv 0) (pa_cons (pe_refg T.e_NoNumber.g) pa_nil))) pa_nil)))))
    (pss_cons (ps_set (i := 4) sc__law_kinds.nd rfl (Or.inl rfl) (pe_lst (pa_cons (pe_callB call_isX (by rfl) T.b_isinstance (by decide +kernel) (pa_cons (pv 0) (pa_cons (pe_refg T.e_NoStarts.g) pa_nil))) (pa_cons (pe_callB call_isX (by rfl) T.b_isinstance (by decide +kernel) (pa_cons (pv 0) (pa_cons (pe_refg T.e_NoState.g) pa_nil))) (pa_cons (pe_callB call_isX (by rfl) T.b_isinstance (by decide +kernel) (pa_cons (pv 0) (pa_cons (pe_refg T.e_NoMove.g) pa_nil))) pa_nil)))))
    (pss_cons (ps_set (i := 4) sc__law_kinds.nd rfl (Or.inl rfl) (pe_op op_cat (pv 4) (pe_lst (pa_cons (pe_callB call_isX (by rfl) T.b_isinstance (by decide +kernel) (pa_cons (pv 0) (pa_cons (pe_refg T.e_NoRoom.g) pa_nil))) pa_nil))))
    (pss_one (ps_ret (pe_op op_cat (pe_op op_cat (pe_op op_cat (pe_op op_cat (pv 1) (pv 2)) (pv 3)) (pv 4)) (pe_lst (pa_cons (pe_callB call_isX (by rfl) T.b_isinstance (by decide +kernel) (pa_cons (pv 0) (pa_cons (pe_refg T.e_TooLong.g) pa_nil))) (pa_cons (pe_callB call_isX (by rfl) T.b_isinstance (by decide +kernel) (pa_cons (pv 0) (pa_cons (pe_refg T.e_TooMany.g) pa_nil))) pa_nil)))))))))))), ?_⟩
    have m : ∀ D, D ∈ CA c → ∀ (y1 y2 y3 y4 : Option V) (H' : Hp), Ex H H' → Ev (tCB (rIsX K) (tCons (tVar 0) (tCons (tC (.ref D)) tNil))) [some (.ref a), y1, y2, y3, y4] H' (.bl (decide (C = D))) := fun D hD y1 y2 y3 y4 H' e => ev_isx T rfl (x.same e) hC hD
    have mm : ∀ k D, (CA c)[k]? = some D → D ∈ CA c := fun k D e => List.mem_of_getElem? e
    refine q_asgL (el_lst (ea_cons (m _ (mm 0 _ rfl) _ _ _ _ _ (Evl.Ex.refl _)) (ea_cons (m _ (mm 1 _ rfl) _ _ _ _ _ (Evl.Ex.refl _)) (ea_cons (m _ (mm 2 _ rfl) _ _ _ _ _ (Evl.Ex.refl _)) ea_nil))) (by show 3 ≤ 100000; decide)) fun p1 H1 n1 e1 h1 => ?_
    refine q_asgL (el_cat (elw_var rfl h1) (elw_new (el_lst (ea_cons (m _ (mm 3 _ rfl) _ _ _ _ _ e1) ea_nil) (by show 1 ≤ 100000; decide))) (by show 3 + 1 ≤ 100000; decide)) fun p2 H2 n2 e2 h2 => ?_
    have f2 := e1.trans e2
    refine q_asgL (el_lst (ea_cons (m _ (mm 4 _ rfl) _ _ _ _ _ f2) (ea_cons (m _ (mm 5 _ rfl) _ _ _ _ _ f2) (ea_cons (m _ (mm 6 _ rfl) _ _ _ _ _ f2) ea_nil))) (by show 3 ≤ 100000; decide)) fun p3 H3 n3 e3 h3 => ?_
    have f3 := f2.trans e3
    refine q_asgL (el_lst (ea_cons (m _ (mm 7 _ rfl) _ _ _ _ _ f3) (ea_cons (m _ (mm 8 _ rfl) _ _ _ _ _ f3) (ea_cons (m _ (mm 9 _ rfl) _ _ _ _ _ f3) ea_nil))) (by show 3 ≤ 100000; decide)) fun p4 H4 n4 e4 h4 => ?_
    have f4 := f3.trans e4
    refine q_asgL (el_lst (ea_cons (m _ (mm 10 _ rfl) _ _ _ _ _ f4) (ea_cons (m _ (mm 11 _ rfl) _ _ _ _ _ f4) (ea_cons (m _ (mm 12 _ rfl) _ _ _ _ _ f4) ea_nil))) (by show 3 ≤ 100000; decide)) fun p5 H5 n5 e5 h5 => ?_
    have f5 := f4.trans e5
    refine q_asgL (el_cat (elw_var rfl h5) (elw_new (el_lst (ea_cons (m _ (mm 13 _ rfl) _ _ _ _ _ f5) ea_nil) (by show 1 ≤ 100000; decide))) (by show 3 + 1 ≤ 100000; decide)) fun p6 H6 n6 e6 h6 => ?_
    have f6 := f5.trans e6
    refine s_retL (el_cat (elw_new (el_cat (elw_new (el_cat (elw_new (el_cat (elw_var rfl (e6 _ _ (e5 _ _ (e4 _ _ (e3 _ _ h2))))) (elw_var rfl (e6 _ _ (e5 _ _ (e4 _ _ h3)))) (by show 4 + 3 ≤ 100000; decide)))
      (elw_var rfl (e6 _ _ (e5 _ _ h4))) (by show 7 + 3 ≤ 100000; decide))) (elw_var rfl h6) (by show 10 + 4 ≤ 100000; decide)))
      (elw_new (el_lst (ea_cons (m _ (mm 14 _ rfl) _ _ _ _ _ f6) (ea_cons (m _ (mm 15 _ rfl) _ _ _ _ _ f6) ea_nil)) (by show 2 ≤ 100000; decide))) (by show 14 + 2 ≤ 100000; decide)) fun p H7 np e7 h7 => ?_
    exact q H7 p (f6.trans e7) (fresh_back f6 np) h7
/-! ### lists of truth values compared -/
theorem dp_bools {H : Hp} {p : Addr} {bs : List Bool} (h : H p = some (.lst (bs.map V.bl))) : Dp K H (.ref p) (.list (bs.map PyData.bool)) := by
  refine .lst (.inl (.inl h)) ?_
  clear h
  induction bs with
  | nil => exact .nil
  | cons b r ih => exact .cons (.bl b) ih
theorem lay_bools : ∀ bs : List Bool, PyData.canLay0 (.list (bs.map PyData.bool)) = true := fun bs => by
  simp only [PyData.canLay0]
  induction bs with
  | nil => simp [PyData.canLayAll0]
  | cons b r ih => simpa [PyData.canLayAll0, PyData.canLay0] using ih
theorem depth_bools : ∀ bs : List Bool, PyData.depth (.list (bs.map PyData.bool)) ≤ 64 := fun bs => by
  have h : PyData.depthAll (bs.map PyData.bool) ≤ 1 := by
    induction bs with
    | nil => simp [PyData.depthAll]
    | cons b r ih => simpa [PyData.depthAll, PyData.depth] using ih
  simp only [PyData.depth]
  omega
theorem shaped_bools (bs : List Bool) : SeqAt.shaped (.list (bs.map PyData.bool)) = true := by
  unfold SeqAt.shaped
  rw [lay_bools, decide_eq_true (depth_bools bs)]
  rfl
theorem ne_bools {H : Hp} {p r : Addr} {bs : List Bool} {Q : VK} (h1 : H p = some (.lst (bs.map V.bl))) (h2 : H r = some (.lst (bs.map V.bl))) (q : Q (.bl false) H) : rNeD K (.ref p) (.ref r) H Q := by
  refine ⟨_, _, dp_bools h1, dp_bools h2, shaped_bools bs, shaped_bools bs, ?_⟩
  rw [SeqAt.eqv_refl _ (lay_bools bs)]
  exact q
/-- of the k-th class -/
theorem kinds_at (T : T02 K mg c) {k : Nat} {C : Addr} (h : (CA c)[k]? = some C) : kindsV c C = ((List.range 16).map fun (j : Nat) => decide (V.int (j : Nat) = V.int (k : Nat))).map V.bl := by
  have nd : (CA c).Nodup := (List.nodup_cons.mp T.nd).2
  obtain ⟨hk, e⟩ := List.getElem?_eq_some_iff.mp h
  unfold kindsV
  refine List.ext_getElem (by simp) fun j h1 h2 => ?_
  rw [List.getElem_map, List.getElem_map, List.getElem_map, List.getElem_range]
  rw [List.length_map] at h1
  congr 1
  rw [← e]
  by_cases ej : j = k
  · subst ej
    rw [decide_eq_true rfl, decide_eq_true rfl]
  · rw [decide_eq_false fun z => ej ((List.getElem_inj nd).mp z).symm, decide_eq_false (show ¬ V.int (j : Int) = V.int (k : Int) from fun z => ej (Int.ofNat.inj (V.int.inj z)))]
theorem kinds_wake (T : T02 K mg c) : kindsV c c.WakeError = (List.replicate 16 false).map V.bl := by
  have e : ∀ D ∈ CA c, decide (c.WakeError = D) = false := fun D hD => decide_eq_false fun z => T.wne hD z.symm
  unfold kindsV
  rw [List.map_congr_left (g := fun _ => V.bl false) fun D hD => by rw [e D hD]]
  rfl
def spLaw (K : PySem.W.Frag) : Sp := fun vs H Q _ => ∃ (a : Addr) (ns : List Int), vs = [.ref a] ∧ SqL K H a (ns.map V.int) ∧ ns.length ≤ 63 ∧ ∀ H', Q (.bl true) H'
theorem texts3 {r : Int} (h0 : 0 ≤ r) (h1 : r < 3) : ∃ t : Str, atI [V.str "", .str "more", .str "one"] r = some (.str t) := by
  obtain ⟨j, rfl⟩ := Int.eq_ofNat_of_zero_le h0
  have : j = 0 ∨ j = 1 ∨ j = 2 := by omega
  rcases this with rfl | rfl | rfl <;> exact ⟨_, rfl⟩
theorem ok_law (T : T02 K mg c) : Ok P w K mg base CX0 6 "law" ["script"] (spLaw K) := by
  have G__law_open : Ok P w K mg base CX0 1 "_law_open" ["script"] (spOpen K) := ok_open T.toTPen
  have G__law_take : Ok P w K mg base CX0 2 "_law_take" ["pen", "amount"] spTake := ok_take T.toTPen
  have G__law_made : Ok P w K mg base CX0 1 "_law_made" ["text"] (spMade c) := ok_made T
  have G__law_kinds : Ok P w K mg base CX0 1 "_law_kinds" ["error"] (spKinds c) := ok_kinds T
  have G_accesses : Ok P w K mg base (L2.CX P w) 4 "accesses" ["program"] (spAcc0 c) := ok_accesses T
  refine T.d_law.ok sc_law bi_law (fun vs H Q E h => ?_) (fun cdv A outer s H f vs Q E hr h => ?_)
  · obtain ⟨a, ns, rfl, _⟩ := h
    rfl
  · obtain ⟨a, ns, rfl, hS, _, q⟩ := h
    refine ⟨_, (pss_cons (ps_set (i := 1) sc_law.nd rfl (Or.inl rfl) (pe_callO G__law_open (hr.mono (by decide)) (pa_cons (pv 0) pa_nil)))
    (pss_cons (ps_set (i := 2) sc_law.nd rfl (Or.inl rfl) (pe_lst (pa_cons (pe_callO G__law_made (hr.mono (by decide)) (pa_cons pe_str pa_nil)) (pa_cons (pe_callO G__law_made (hr.mono (by decide)) (pa_cons (pe_ix ix_list (pe_lst (pa_cons pe_str (pa_cons pe_str (pa_cons pe_str pa_nil)))) (pe_callO G__law_take (hr.mono (by decide)) (pa_cons (pv 1) (pa_cons pe_int pa_nil))) (fun _ _ => rfl)) pa_nil)) pa_nil))))
    (pss_cons (ps_for PassesOwn.never rfl (pi_list (pv 2)) (pg_name (i := 3) sc_law.nd rfl (Or.inl rfl)) (pss_one (ps_for PassesOwn.never rfl (pi_enum (by rfl) T.b_enumerate (pa_cons (pv 3) pa_nil)) (pg_tup rfl (pgs_cons (pg_name (i := 4) sc_law.nd rfl (Or.inr rfl)) (pgs_cons (pg_name (i := 5) sc_law.nd rfl (Or.inl rfl)) pgs_nil))) (pss_cons (ps_if (PW.pt (pw_or (pt_not (pt_val (pe_callB call_isX (by rfl) T.b_isinstance (by decide +kernel) (pa_cons (pv 5) (pa_cons (pe_refg T.e_WakeError.g) pa_nil))))) (pw_or1 (pt_not (pt_val (pe_callB call_isX (by rfl) T.b_isinstance (by decide +kernel) (pa_cons (pv 5) (pa_cons (pe_bltn (by rfl) T.b_ValueError (by decide +kernel) (v := .ty "ValueError") rfl) pa_nil)))))))) (pss_one (ps_ret pe_bl)) pss_nil)
    (pss_one (ps_if (pt_cmpR (op_neD hr.units) (pe_callO G__law_kinds (hr.mono (by decide)) (pa_cons (pv 5) pa_nil)) (pe_lc (own := [("index", 6)]) rfl sc_law.nd (pi_range1 (by rfl) T.b_range (pa_cons pe_int pa_nil)) (blkOk_by (N := N_law) (sc := defScope s_law) (by decide +kernel)) (fun _ _ _ _ _ => (pg_name (i := 6) sc_law.nd rfl (Or.inl rfl))) (fun _ _ _ _ _ => pts_nil) (fun _ _ _ _ _ => (pe_cmpR op_eq (pv 6) (pv 4) (nomark _)))) (nomark _)) (pss_one (ps_ret pe_bl)) pss_nil))))))
    (pss_cons (ps_set (i := 7) sc_law.nd rfl (Or.inl rfl) pe_non)
    (pss_cons (ps_try_asK (i := 8) (tb := fun W => tDrop (tCallS (spAcc0 c) (WE W) (tCons (tC .non) tNil))) (ts := fun a cls d => tAsg (tVar 8) (gName 7)) (Wo := fun _ _ _ _ => False) rfl rfl sc_law.nd rfl rfl rfl ⟨rfl, by decide, Or.inl T.e_WakeError.g⟩ takes0 (fun W pn xe tk _ => pss_one (ps_expr (by exact (pe_callOX G_accesses (hr.mono (by decide)) tk (pa_cons pe_non pa_nil))))) (fun a ob cls d pn hz hf => pss_one (ps_set (i := 7) sc_law.nd rfl (Or.inl rfl) (by exact (pv 8)))))
    (pss_cons (ps_if (PW.pt (pw_or (pt_cmpR op_isN (pv 7) pe_non (nomark _)) (pw_or1 (pt_cmpR (op_neD hr.units) (pe_callO G__law_kinds (hr.mono (by decide)) (pa_cons (pv 7) pa_nil)) (pe_op op_cat (pe_lst (pa_cons pe_bl pa_nil)) (pe_op op_rep (pe_lst (pa_cons pe_bl pa_nil)) pe_int)) (nomark _))))) (pss_one (ps_ret pe_bl)) pss_nil)
    (pss_cons (ps_set (i := 9) sc_law.nd rfl (Or.inl rfl) (pe_exc1 PySem.F.excBase_ValueError T.e_WakeError.xx T.e_WakeError.g T.e_WakeError.k (by rfl) pe_str))
    (pss_one (ps_ret (pe_and (pe_callB call_isX (by rfl) T.b_isinstance (by decide +kernel) (pa_cons (pv 9) (pa_cons (pe_bltn (by rfl) T.b_ValueError (by decide +kernel) (v := .ty "ValueError") rfl) pa_nil))) (pe_one (pe_cmpR op_notIn_seq pe_bl (pe_callO G__law_kinds (hr.mono (by decide)) (pa_cons (pv 9) pa_nil)) (by rfl))))))))))))), ?_⟩
    -- pen = _law_open(script)
    refine ⟨_, rfl, a, ns, rfl, hS, fun H1 p s1 fp pen1 => ?_⟩
    -- some = [_law_made('one'), _law_made([..][_law_take(pen, 3)])]
    refine ⟨_, rfl, fun H2 p1 u1 s2 n1 h1 x1 => ?_⟩
    have pen2 : Pen H2 p 0 := pen1.ext s2
    refine ⟨sz_of (by show 3 ≤ 100000; decide), fun l nl => ?_⟩
    have s3 := same_new nl (o := .lst [V.str "", .str "more", .str "one"])
    have pen3 := pen2.ext s3
    refine ⟨_, rfl, p, 3, 0, rfl, pen3, by decide, by decide, by decide, fun H4 r s4 pen4 r0 r1 => ?_⟩
    obtain ⟨pc, pcs, pat, pr, hp2, _⟩ := id pen2
    have nlp : l ≠ p := (ne_of_none hp2 nl).symm
    have np1 : p1 ≠ p := by
      obtain ⟨_, _, _, _, z, _⟩ := id pen1
      exact (ne_of_none z n1).symm
    have np1l : p1 ≠ l := ne_of_none h1 nl
    have hl4 : H4 l = some (.lst [V.str "", .str "more", .str "one"]) := off_sub _ _ (s4 _ _ (off_of upd_same nlp))
    have h14 : H4 p1 = some (.lst u1) := off_sub _ _ (s4 _ _ (off_of (by rw [upd_ne np1l]; exact h1) np1))
    have x14 : Exs H4 u1 (CA c) := ((Exs.off (H := upd H2 l _) (by rw [upd_ne nlp.symm]; exact hp2) (x1.same s3)).same s4).same off_sub
    obtain ⟨t, ht⟩ := texts3 r0 r1
    refine ⟨l, _, r, _, rfl, rfl, .inl (.inl hl4), ht, t, rfl, fun H5 p2 u2 s5 n2 h2 x2 => ?_⟩
    refine ⟨sz_of (by show 2 ≤ 100000; decide), fun g ng => ?_⟩
    have s6 := same_new ng (o := .lst [V.ref p1, .ref p2])
    have h16 : (upd H5 g (.lst [V.ref p1, .ref p2])) p1 = some (.lst u1) := s6 _ _ (s5 _ _ h14)
    have x16 := (x14.same s5).same s6
    have h26 : (upd H5 g (.lst [V.ref p1, .ref p2])) p2 = some (.lst u2) := s6 _ _ h2
    have x26 := x2.same s6
    -- for errors in some
    have hg6 : (upd H5 g (.lst [V.ref p1, .ref p2])) g = some (.lst [V.ref p1, .ref p2]) := upd_same
    generalize upd H5 g (.lst [V.ref p1, .ref p2]) = H6 at h16 x16 h26 x26 hg6 ⊢
    refine ⟨_, rfl, g, rfl, ⟨_, .inl (.inl hg6)⟩, ?_⟩
    refine for_it walk_list (fun i σ H' => ∃ y3 y4 y5, σ = [some (.ref a), some (.ref p), some (.ref g), y3, y4, y5, none, none, none, none] ∧ Same H6 H') ⟨none, none, none, rfl, Same.refl _⟩ (fun i σ H' _ ⟨_, _, _, _, z⟩ => .inl (.inl (z _ _ hg6))) ?_ ?_
    · rintro i x σ H7 H7' hi ⟨y3, y4, y5, rfl, s7⟩ ⟨rfl, hx⟩
      obtain ⟨pe, us, rfl, hpe, xpe⟩ : ∃ pe us, x = .ref pe ∧ H7' pe = some (.lst us) ∧ Exs H7' us (CA c) := by
        match i, hx with
        | 0, hx => exact ⟨p1, u1, (Option.some.inj hx).symm, s7 _ _ h16, x16.same s7⟩
        | 1, hx => exact ⟨p2, u2, (Option.some.inj hx).symm, s7 _ _ h26, x26.same s7⟩
      refine ⟨_, rfl, pe, us, rfl, .inl (.inl hpe), ?_⟩
      refine for_it walk_enum (fun i σ H' => ∃ y4 y5, σ = [some (.ref a), some (.ref p), some (.ref g), some (.ref pe), y4, y5, none, none, none, none] ∧ Same H7' H') ⟨y4, y5, rfl, Same.refl _⟩ (fun i σ H' _ ⟨_, _, _, z⟩ => .inl (.inl (z _ _ hpe))) ?_ ?_
      · rintro k x σ H8 H8' hk ⟨y4, y5, rfl, s8⟩ ⟨T', x1, x2, rfl, nT, rfl, f1, f2⟩
        have ex1 : x1 = .int (k : Nat) := (Option.some.inj f1).symm
        subst ex1
        obtain ⟨ea, C, rfl, hC, hx⟩ := (xpe.same s8).at f2
        have mC : C ∈ CA c := List.mem_of_getElem? hC
        have sT := same_new nT (o := .tup [V.int (k : Nat), .ref ea])
        have hx' := hx.same sT
        refine ⟨T', _, rfl, .inl (.inl upd_same), rfl, _, _, rfl, _, _, rfl, rfl, ?_⟩
        refine ⟨_, rfl, ea, C, .ref c.WakeError, .ref c.WakeError, true, rfl, hx', T.ec (.inr mC), .own _, T.wake mC, true, rfl, iteF ?_⟩
        refine ⟨_, rfl, ea, C, .ty "ValueError", .type "ValueError", true, rfl, hx', T.ec (.inr mC), .ty _, T.value (.inr mC), true, rfl, iteF ?_⟩
        refine ⟨_, rfl, ea, C, rfl, .inr mC, hx', fun H9 kp s9 nk hk => ?_⟩
        refine (el_lcR1 (j := 6) (n := 16) (fun _ => true) (fun j => .bl (decide (V.int (j : Nat) = V.int (k : Nat)))) (ea_cons ev_c ea_nil) ⟨by decide, by decide⟩ (fun _ => rfl) (fun _ H' _ _ H1 _ Q q => q H1 (Evl.Ex.refl _))
          (fun _ H' _ _ _ => Evl.ev_op (ev_var rfl) (ev_var rfl) (Evl.rv_eq rfl))) H9 (Evl.Ex.refl _) _ fun lp H10 nlp e10 h10 => ?_
        have hk10 := e10 _ _ hk
        rw [kinds_at T hC] at hk10
        refine ne_bools hk10 h10 ⟨false, rfl, iteF ?_⟩
        exact ⟨_, _, rfl, ((s8.trans sT).trans s9).trans e10⟩
      · rintro σ H8 ⟨y4, y5, rfl, s8⟩
        exact ⟨_, _, _, rfl, s7.trans s8⟩
    · rintro σ H7 ⟨y3, y4, y5, rfl, s7⟩
      -- the error that accesses(None) raises
      refine ⟨rfl, true, T.exm, fun _ ea nea => ?_, fun z => by cases z⟩
      refine ⟨_, rfl, ?_⟩
      have xe : IsEx (upd H7 ea (ExI (.ref c.NoProgram) none ea)) ea c.NoProgram := IsEx.i upd_same
      have m0 : (CA c)[0]? = some c.NoProgram := rfl
      refine ⟨_, rfl, rfl, _, rfl, ite2 (fun z => by have z := of_decide_eq_true z; cases z) (fun _ => ?_)⟩
      refine ⟨_, rfl, ea, c.NoProgram, rfl, .inr (List.mem_of_getElem? m0), xe, fun H8 kp s8 nk hk => ?_⟩
      refine (el_cat (elw_new (el_lst (ea_cons ev_c ea_nil) (by show 1 ≤ 100000; decide))) (elw_new (el_rep (elw_new (el_lst (ea_cons ev_c ea_nil) (by show 1 ≤ 100000; decide))) ev_c (by decide) (by decide) (by decide))) (by decide)) H8 (Evl.Ex.refl _) _ fun lp H9 nlp e9 h9 => ?_
      have hk9 := e9 _ _ hk
      rw [kinds_at T m0] at hk9
      refine ne_bools hk9 (h9.trans (congrArg (fun z => some (HO.lst z)) (by decide +kernel))) ⟨false, rfl, iteF ?_⟩
      -- base
      refine fun ba nba => ?_
      refine ⟨_, rfl, ba, c.WakeError, .ty "ValueError", .type "ValueError", true, rfl, IsEx.o upd_same, T.ec (.inl rfl), .ty _, T.value (.inl rfl), true, rfl, iteT ?_⟩
      refine ⟨_, rfl, ba, c.WakeError, rfl, .inl rfl, IsEx.o upd_same, fun H11 kp2 s11 nk2 hk2 => ?_⟩
      rw [kinds_wake T] at hk2
      refine ⟨kp2, _, rfl, .inl (.inl (.inl hk2)), rfl, by decide +kernel, ?_⟩
      exact q H11
end
end FW
set_option Elab.async false
set_option linter.all false
set_option maxRecDepth 100000
set_option maxHeartbeats 4000000
namespace FW
open PySem PySem.Spec PyProof.Rows L2
section
theorem all_mk {P : Program} {w : World} {K : PySem.W.Frag} {h : Heap} {mg : Str → Option Value} {fa : Addr} {a_WakeError : Addr} {a_NoProgram : Addr} {a_NoInputs : Addr} {a_NoPlan : Addr} {a_NoOrder : Addr} {a_NoAccess : Addr} {a_NoUnit : Addr} {a_NoFunction : Addr} {a_NoPrices : Addr} {a_NoPlaces : Addr} {a_NoNumber : Addr} {a_NoStarts : Addr} {a_NoState : Addr} {a_NoMove : Addr} {a_NoRoom : Addr} {a_TooLong : Addr} {a_TooMany : Addr} (X : K.In h) (G : h.Ns mainGlobals mg) (hfa : mg "law" = some (.ref fa))
    (d_open : DfAt K "_law_open" s__law_open)
    (d_spread : DfAt K "_law_spread" s__law_spread)
    (d_take : DfAt K "_law_take" s__law_take)
    (d_made : DfAt K "_law_made" s__law_made)
    (d_kinds : DfAt K "_law_kinds" s__law_kinds)
    (d_law : DfAt K "law" s_law)
    (d_is_tuple : DfAt K "is_tuple" s_is_tuple)
    (d_is_program : DfAt K "is_program" s_is_program)
    (d_need : DfAt K "need_program" s_need_program)
    (d_accesses : DfAt K "accesses" s_accesses)
    (b_list : PySem.W.nsIn K mainGlobals "list" = some none)
    (b_enumerate : PySem.W.nsIn K mainGlobals "enumerate" = some none)
    (b_int : PySem.W.nsIn K mainGlobals "int" = some none)
    (b_len : PySem.W.nsIn K mainGlobals "len" = some none)
    (b_isinstance : PySem.W.nsIn K mainGlobals "isinstance" = some none)
    (b_tuple : PySem.W.nsIn K mainGlobals "tuple" = some none)
    (b_ValueError : PySem.W.nsIn K mainGlobals "ValueError" = some none)
    (b_range : PySem.W.nsIn K mainGlobals "range" = some none)
    (e_WakeError : ClAt K "WakeError" a_WakeError (.ref a_WakeError :: bVE))
    (e_NoProgram : ClAt K "NoProgram" a_NoProgram (.ref a_NoProgram :: .ref a_WakeError :: bVE))
    (e_NoInputs : ClAt K "NoInputs" a_NoInputs (.ref a_NoInputs :: .ref a_WakeError :: bVE))
    (e_NoPlan : ClAt K "NoPlan" a_NoPlan (.ref a_NoPlan :: .ref a_WakeError :: bVE))
    (e_NoOrder : ClAt K "NoOrder" a_NoOrder (.ref a_NoOrder :: .ref a_WakeError :: bVE))
    (e_NoAccess : ClAt K "NoAccess" a_NoAccess (.ref a_NoAccess :: .ref a_WakeError :: bVE))
    (e_NoUnit : ClAt K "NoUnit" a_NoUnit (.ref a_NoUnit :: .ref a_WakeError :: bVE))
    (e_NoFunction : ClAt K "NoFunction" a_NoFunction (.ref a_NoFunction :: .ref a_WakeError :: bVE))
    (e_NoPrices : ClAt K "NoPrices" a_NoPrices (.ref a_NoPrices :: .ref a_WakeError :: bVE))
    (e_NoPlaces : ClAt K "NoPlaces" a_NoPlaces (.ref a_NoPlaces :: .ref a_WakeError :: bVE))
    (e_NoNumber : ClAt K "NoNumber" a_NoNumber (.ref a_NoNumber :: .ref a_WakeError :: bVE))
    (e_NoStarts : ClAt K "NoStarts" a_NoStarts (.ref a_NoStarts :: .ref a_WakeError :: bVE))
    (e_NoState : ClAt K "NoState" a_NoState (.ref a_NoState :: .ref a_WakeError :: bVE))
    (e_NoMove : ClAt K "NoMove" a_NoMove (.ref a_NoMove :: .ref a_WakeError :: bVE))
    (e_NoRoom : ClAt K "NoRoom" a_NoRoom (.ref a_NoRoom :: .ref a_WakeError :: bVE))
    (e_TooLong : ClAt K "TooLong" a_TooLong (.ref a_TooLong :: .ref a_WakeError :: bVE))
    (e_TooMany : ClAt K "TooMany" a_TooMany (.ref a_TooMany :: .ref a_WakeError :: bVE))
    (nd : [a_WakeError, a_NoProgram, a_NoInputs, a_NoPlan, a_NoOrder, a_NoAccess, a_NoUnit, a_NoFunction, a_NoPrices, a_NoPlaces, a_NoNumber, a_NoStarts, a_NoState, a_NoMove, a_NoRoom, a_TooLong, a_TooMany].Nodup) :
    ∃ fd : FuncData, (∀ (s : Shared) (v : Value), BindsTo s fd ⟨[v], []⟩ [("script", v)]) ∧ ∀ base : Heap, K.In base → base.Ns mainGlobals mg → FnOk P w K mg base CX0 6 fa fd ["script"] (spLaw K) := by
  have T : T02 K mg ⟨a_WakeError, a_NoProgram, a_NoInputs, a_NoPlan, a_NoOrder, a_NoAccess, a_NoUnit, a_NoFunction, a_NoPrices, a_NoPlaces, a_NoNumber, a_NoStarts, a_NoState, a_NoMove, a_NoRoom, a_TooLong, a_TooMany⟩ :=
    { b_list := PySem.W.mg_none_of X G b_list, b_enumerate := PySem.W.mg_none_of X G b_enumerate, b_int := PySem.W.mg_none_of X G b_int, b_len := PySem.W.mg_none_of X G b_len, b_isinstance := PySem.W.mg_none_of X G b_isinstance, b_tuple := PySem.W.mg_none_of X G b_tuple, b_ValueError := PySem.W.mg_none_of X G b_ValueError, b_range := PySem.W.mg_none_of X G b_range,
      d_open := d_open.df X G, d_spread := d_spread.df X G, d_take := d_take.df X G, d_made := d_made.df X G, d_kinds := d_kinds.df X G, d_law := d_law.df X G, d_is_tuple := d_is_tuple.df X G, d_is_program := d_is_program.df X G, d_need := d_need.df X G, d_accesses := d_accesses.df X G,
      e_WakeError := e_WakeError.cl X G, e_NoProgram := e_NoProgram.cl X G, e_NoInputs := e_NoInputs.cl X G, e_NoPlan := e_NoPlan.cl X G, e_NoOrder := e_NoOrder.cl X G, e_NoAccess := e_NoAccess.cl X G, e_NoUnit := e_NoUnit.cl X G, e_NoFunction := e_NoFunction.cl X G, e_NoPrices := e_NoPrices.cl X G, e_NoPlaces := e_NoPlaces.cl X G, e_NoNumber := e_NoNumber.cl X G, e_NoStarts := e_NoStarts.cl X G, e_NoState := e_NoState.cl X G, e_NoMove := e_NoMove.cl X G, e_NoRoom := e_NoRoom.cl X G, e_TooLong := e_TooLong.cl X G, e_TooMany := e_TooMany.cl X G, nd := nd }
  exact end_law (d_law.df X G) bi_law hfa fun base _ _ => ok_law T
end
end FW
open PySem PySem.W PyProof.Rows
set_option maxRecDepth 100000 in
set_option maxHeartbeats 0 in
theorem PySem.Challenge.cw_firstwake_k02_errors_by_hand_holds : PySem.Challenge.rw_firstwake_k02_errors_by_hand.Holds := by
  w_on; o_law; k_head; (case hw => w_witness2)
  k_fill
  refine L2.walk_of (l := PySem.Challenge.rw_firstwake_k02_errors_by_hand) (n := 63) (k := 6) (x := "script") (CX := fun _ => L2.CX0) (sp := fun w => FW.spLaw _) rfl (by decide) rfl ⟨rfl, by decide, by decide⟩ (fun w h Y => PySem.W.kIn_of Y) ?F (fun _ _ a ns hl _ hS => ⟨a, ns, rfl, hS, hl, fun _ => rfl⟩) (fun _ _ _ _ _ h => h)
  case F =>
    intro w mg fa h KX G hmg
    refine' FW.all_mk KX G hmg ?d_open ?d_spread ?d_take ?d_made ?d_kinds ?d_law ?d_is_tuple ?d_is_program ?d_need ?d_accesses ?b_list ?b_enumerate ?b_int ?b_len ?b_isinstance ?b_tuple ?b_ValueError ?b_range ?e_WakeError ?e_NoProgram ?e_NoInputs ?e_NoPlan ?e_NoOrder ?e_NoAccess ?e_NoUnit ?e_NoFunction ?e_NoPrices ?e_NoPlaces ?e_NoNumber ?e_NoStarts ?e_NoState ?e_NoMove ?e_NoRoom ?e_TooLong ?e_TooMany ?nd
    case d_open => refine' FW.DfAt.mk ?a ?l ?c ?k; (case a => k_is); (case l => k_is); (case c => k_is); (case k => k_is)
    case d_spread => refine' FW.DfAt.mk ?a ?l ?c ?k; (case a => k_is); (case l => k_is); (case c => k_is); (case k => k_is)
    case d_take => refine' FW.DfAt.mk ?a ?l ?c ?k; (case a => k_is); (case l => k_is); (case c => k_is); (case k => k_is)
    case d_made => refine' FW.DfAt.mk ?a ?l ?c ?k; (case a => k_is); (case l => k_is); (case c => k_is); (case k => k_is)
    case d_kinds => refine' FW.DfAt.mk ?a ?l ?c ?k; (case a => k_is); (case l => k_is); (case c => k_is); (case k => k_is)
    case d_law => refine' FW.DfAt.mk ?a ?l ?c ?k; (case a => k_is); (case l => k_is); (case c => k_is); (case k => k_is)
    case d_is_tuple => refine' FW.DfAt.mk ?a ?l ?c ?k; (case a => k_is); (case l => k_is); (case c => k_is); (case k => k_is)
    case d_is_program => refine' FW.DfAt.mk ?a ?l ?c ?k; (case a => k_is); (case l => k_is); (case c => k_is); (case k => k_is)
    case d_need => refine' FW.DfAt.mk ?a ?l ?c ?k; (case a => k_is); (case l => k_is); (case c => k_is); (case k => k_is)
    case d_accesses => refine' FW.DfAt.mk ?a ?l ?c ?k; (case a => k_is); (case l => k_is); (case c => k_is); (case k => k_is)
    case b_list => k_is
    case b_enumerate => k_is
    case b_int => k_is
    case b_len => k_is
    case b_isinstance => k_is
    case b_tuple => k_is
    case b_ValueError => k_is
    case b_range => k_is
    case e_WakeError => refine' FW.ClAt.mk ?z1 ?z2 ?z3 ?y1 ?y2 ?y3 ?y4 ?y5 ?y6 ?y7 ?y8 ?z4 ?z5 ?z6; (case z1 => k_is); (case z2 => k_is); (case z3 => k_exc); (case y1 => k_is); (case y2 => k_is); (case y3 => k_is); (case y4 => k_is); (case y5 => k_is); (case y6 => k_is); (case y7 => k_is); (case y8 => k_is); (case z4 => k_is); (case z5 => rfl); (case z6 => k_is)
    case e_NoProgram => refine' FW.ClAt.mk ?z1 ?z2 ?z3 ?y1 ?y2 ?y3 ?y4 ?y5 ?y6 ?y7 ?y8 ?z4 ?z5 ?z6; (case z1 => k_is); (case z2 => k_is); (case z3 => k_exc); (case y1 => k_is); (case y2 => k_is); (case y3 => k_is); (case y4 => k_is); (case y5 => k_is); (case y6 => k_is); (case y7 => k_is); (case y8 => k_is); (case z4 => k_is); (case z5 => rfl); (case z6 => k_is)
    case e_NoInputs => refine' FW.ClAt.mk ?z1 ?z2 ?z3 ?y1 ?y2 ?y3 ?y4 ?y5 ?y6 ?y7 ?y8 ?z4 ?z5 ?z6; (case z1 => k_is); (case z2 => k_is); (case z3 => k_exc); (case y1 => k_is); (case y2 => k_is); (case y3 => k_is); (case y4 => k_is); (case y5 => k_is); (case y6 => k_is); (case y7 => k_is); (case y8 => k_is); (case z4 => k_is); (case z5 => rfl); (case z6 => k_is)
    case e_NoPlan => refine' FW.ClAt.mk ?z1 ?z2 ?z3 ?y1 ?y2 ?y3 ?y4 ?y5 ?y6 ?y7 ?y8 ?z4 ?z5 ?z6; (case z1 => k_is); (case z2 => k_is); (case z3 => k_exc); (case y1 => k_is); (case y2 => k_is); (case y3 => k_is); (case y4 => k_is); (case y5 => k_is); (case y6 => k_is); (case y7 => k_is); (case y8 => k_is); (case z4 => k_is); (case z5 => rfl); (case z6 => k_is)
    case e_NoOrder => refine' FW.ClAt.mk ?z1 ?z2 ?z3 ?y1 ?y2 ?y3 ?y4 ?y5 ?y6 ?y7 ?y8 ?z4 ?z5 ?z6; (case z1 => k_is); (case z2 => k_is); (case z3 => k_exc); (case y1 => k_is); (case y2 => k_is); (case y3 => k_is); (case y4 => k_is); (case y5 => k_is); (case y6 => k_is); (case y7 => k_is); (case y8 => k_is); (case z4 => k_is); (case z5 => rfl); (case z6 => k_is)
    case e_NoAccess => refine' FW.ClAt.mk ?z1 ?z2 ?z3 ?y1 ?y2 ?y3 ?y4 ?y5 ?y6 ?y7 ?y8 ?z4 ?z5 ?z6; (case z1 => k_is); (case z2 => k_is); (case z3 => k_exc); (case y1 => k_is); (case y2 => k_is); (case y3 => k_is); (case y4 => k_is); (case y5 => k_is); (case y6 => k_is); (case y7 => k_is); (case y8 => k_is); (case z4 => k_is); (case z5 => rfl); (case z6 => k_is)
    case e_NoUnit => refine' FW.ClAt.mk ?z1 ?z2 ?z3 ?y1 ?y2 ?y3 ?y4 ?y5 ?y6 ?y7 ?y8 ?z4 ?z5 ?z6; (case z1 => k_is); (case z2 => k_is); (case z3 => k_exc); (case y1 => k_is); (case y2 => k_is); (case y3 => k_is); (case y4 => k_is); (case y5 => k_is); (case y6 => k_is); (case y7 => k_is); (case y8 => k_is); (case z4 => k_is); (case z5 => rfl); (case z6 => k_is)
    case e_NoFunction => refine' FW.ClAt.mk ?z1 ?z2 ?z3 ?y1 ?y2 ?y3 ?y4 ?y5 ?y6 ?y7 ?y8 ?z4 ?z5 ?z6; (case z1 => k_is); (case z2 => k_is); (case z3 => k_exc); (case y1 => k_is); (case y2 => k_is); (case y3 => k_is); (case y4 => k_is); (case y5 => k_is); (case y6 => k_is); (case y7 => k_is); (case y8 => k_is); (case z4 => k_is); (case z5 => rfl); (case z6 => k_is)
    case e_NoPrices => refine' FW.ClAt.mk ?z1 ?z2 ?z3 ?y1 ?y2 ?y3 ?y4 ?y5 ?y6 ?y7 ?y8 ?z4 ?z5 ?z6; (case z1 => k_is); (case z2 => k_is); (case z3 => k_exc); (case y1 => k_is); (case y2 => k_is); (case y3 => k_is); (case y4 => k_is); (case y5 => k_is); (case y6 => k_is); (case y7 => k_is); (case y8 => k_is); (case z4 => k_is); (case z5 => rfl); (case z6 => k_is)
    case e_NoPlaces => refine' FW.ClAt.mk ?z1 ?z2 ?z3 ?y1 ?y2 ?y3 ?y4 ?y5 ?y6 ?y7 ?y8 ?z4 ?z5 ?z6; (case z1 => k_is); (case z2 => k_is); (case z3 => k_exc); (case y1 => k_is); (case y2 => k_is); (case y3 => k_is); (case y4 => k_is); (case y5 => k_is); (case y6 => k_is); (case y7 => k_is); (case y8 => k_is); (case z4 => k_is); (case z5 => rfl); (case z6 => k_is)
    case e_NoNumber => refine' FW.ClAt.mk ?z1 ?z2 ?z3 ?y1 ?y2 ?y3 ?y4 ?y5 ?y6 ?y7 ?y8 ?z4 ?z5 ?z6; (case z1 => k_is); (case z2 => k_is); (case z3 => k_exc); (case y1 => k_is); (case y2 => k_is); (case y3 => k_is); (case y4 => k_is); (case y5 => k_is); (case y6 => k_is); (case y7 => k_is); (case y8 => k_is); (case z4 => k_is); (case z5 => rfl); (case z6 => k_is)
    case e_NoStarts => refine' FW.ClAt.mk ?z1 ?z2 ?z3 ?y1 ?y2 ?y3 ?y4 ?y5 ?y6 ?y7 ?y8 ?z4 ?z5 ?z6; (case z1 => k_is); (case z2 => k_is); (case z3 => k_exc); (case y1 => k_is); (case y2 => k_is); (case y3 => k_is); (case y4 => k_is); (case y5 => k_is); (case y6 => k_is); (case y7 => k_is); (case y8 => k_is); (case z4 => k_is); (case z5 => rfl); (case z6 => k_is)
    case e_NoState => refine' FW.ClAt.mk ?z1 ?z2 ?z3 ?y1 ?y2 ?y3 ?y4 ?y5 ?y6 ?y7 ?y8 ?z4 ?z5 ?z6; (case z1 => k_is); (case z2 => k_is); (case z3 => k_exc); (case y1 => k_is); (case y2 => k_is); (case y3 => k_is); (case y4 => k_is); (case y5 => k_is); (case y6 => k_is); (case y7 => k_is); (case y8 => k_is); (case z4 => k_is); (case z5 => rfl); (case z6 => k_is)
    case e_NoMove => refine' FW.ClAt.mk ?z1 ?z2 ?z3 ?y1 ?y2 ?y3 ?y4 ?y5 ?y6 ?y7 ?y8 ?z4 ?z5 ?z6; (case z1 => k_is); (case z2 => k_is); (case z3 => k_exc); (case y1 => k_is); (case y2 => k_is); (case y3 => k_is); (case y4 => k_is); (case y5 => k_is); (case y6 => k_is); (case y7 => k_is); (case y8 => k_is); (case z4 => k_is); (case z5 => rfl); (case z6 => k_is)
    case e_NoRoom => refine' FW.ClAt.mk ?z1 ?z2 ?z3 ?y1 ?y2 ?y3 ?y4 ?y5 ?y6 ?y7 ?y8 ?z4 ?z5 ?z6; (case z1 => k_is); (case z2 => k_is); (case z3 => k_exc); (case y1 => k_is); (case y2 => k_is); (case y3 => k_is); (case y4 => k_is); (case y5 => k_is); (case y6 => k_is); (case y7 => k_is); (case y8 => k_is); (case z4 => k_is); (case z5 => rfl); (case z6 => k_is)
    case e_TooLong => refine' FW.ClAt.mk ?z1 ?z2 ?z3 ?y1 ?y2 ?y3 ?y4 ?y5 ?y6 ?y7 ?y8 ?z4 ?z5 ?z6; (case z1 => k_is); (case z2 => k_is); (case z3 => k_exc); (case y1 => k_is); (case y2 => k_is); (case y3 => k_is); (case y4 => k_is); (case y5 => k_is); (case y6 => k_is); (case y7 => k_is); (case y8 => k_is); (case z4 => k_is); (case z5 => rfl); (case z6 => k_is)
    case e_TooMany => refine' FW.ClAt.mk ?z1 ?z2 ?z3 ?y1 ?y2 ?y3 ?y4 ?y5 ?y6 ?y7 ?y8 ?z4 ?z5 ?z6; (case z1 => k_is); (case z2 => k_is); (case z3 => k_exc); (case y1 => k_is); (case y2 => k_is); (case y3 => k_is); (case y4 => k_is); (case y5 => k_is); (case y6 => k_is); (case y7 => k_is); (case y8 => k_is); (case z4 => k_is); (case z5 => rfl); (case z6 => k_is)
    case nd => decide
